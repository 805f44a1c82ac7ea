import PyProof.Rows.All
import Wide.All
import OpenK.AllK
import Wide.FinOn
import HandS.ForMost
import HandS.Star
import HandS.Property
import HandS.ClsMeth
import HandS.IsInst
import HandS.Wide
import HandS.Walk
import HandS.TupAny
import KE.GoesEnum
import HandS.Style
import HandS.Flt
import HandS.Conv
import HandS.SetBool
import HandS.Strs
import HandS.TupMul
import KE.DataFind
import HandS.Deep
import HandS.ExcIs
import KE.KRevSl
import HandS.MakeKwOnly
import HandS.Flow
import HandS.Codes
import HandS.WordsExc
import HandS.FStr
import HandS.ExcValue
import HandS.ExcField
import HandS.GenList
import HandS.Lambda
import HandS.ExcSuper
import KE.KExcSuper
import KE.KSuper
import HandS.SuiteRaise
import HandS.MethStar
import KE.KUnpackStar
import HandS.TryOnly
import PyProof.P3Eq
import HandS.Defaults
import HandS.TupLe
import HandS.EndTab
import PySem.Challenge.RW_chaircarry_k44_whole_operations_reverted
set_option Elab.async false
set_option linter.all false
set_option maxRecDepth 100000
set_option maxHeartbeats 5000000
/-! Own rules: enumerate over a tuple, list.extend by a tuple, C( *xs), C() by a positional promise. -/
namespace Cc
open PySem PySem.Spec PyProof.Rows L2
/-! ### list.extend(tuple) -/
theorem extend_tup {prog : Program} {w : World} {A : Around} {Ez : Value → Shared → Prop} {s : Shared} {S it : Addr} {o : Obj} {xs items : Array Value} {n c₀ : Nat} {Qz : Fin → Shared → Prop}
    (kS : s.heap.get? S = some { cls := .type "list", data := .seq xs c₀ }) (ko : s.heap.get? it = some o) (kc : o.cls = .type "tuple") (kd : o.data = .seq items n)
    (kne : S ≠ it) (ksz : xs.size + items.size ≤ sizeLine)
    (hQ : Qz (.done (.ret .none)) { s with heap := s.heap.update S (Obj.mapSeq (· ++ items)) }) :
    wpAny (model prog w) A (Builtin.List.listExtendWith (.ref S) (.ref it) .none) Qz Ez s := by
  show wpAny _ A (Builtin.List.listExtendWith _ _ _) Qz Ez s; unfold Builtin.List.listExtendWith
  refine wpAny_bind (wpAny_typeOf ⟨o, ko, kc⟩ ?_)
  have g1 : (Builtin.List.listSameRef (.ref S) (.ref it) || Value.type "tuple" == Value.type "list" || Value.type "tuple" == Value.type "tuple") = true := by simp
  simp only [g1, if_true]
  refine wpAny_bind ?_
  unfold Builtin.List.listItems
  refine wpAny_bind (wpAny_seqItems ko kd (wpAny_pure ?_))
  refine wpAny_bind ?_
  refine wpAny_bind (wpAny_seqItems kS rfl (wpAny_pure ?_))
  have hdoor : (!xs.isEmpty && Builtin.List.listTooLong (xs.size + items.size)) = false := by rw [notLongL ksz, Bool.and_false]
  simp only [hdoor, Bool.false_eq_true, if_false]
  show wpAny _ A (updateSeq S (· ++ items) >>= fun _ => ret Value.none) _ _ s
  refine wpAny_bind (wpAny_updateSeq kS rfl ?_)
  exact wpAny_pure hQ
section
variable {X : Cx}
def rExtendT (K : PySem.W.Frag) : V → List V → Hp → VK → Prop := fun x vs Hh Qz => ∃ l b xs zs, x = .ref l ∧ vs = [.ref b] ∧ Hh l = some (.lst xs) ∧ SqT K Hh b zs ∧ xs.length + zs.length ≤ sizeLine ∧ Qz .non (upd Hh l (.lst (xs ++ zs)))
theorem mt_extendT : MtM X "list.extend" (rExtendT X.K) := by
  intro pz s sg Hh x vs v us Qz J rx rw1 h
  obtain ⟨l, b, xs, zs, rfl, rfl, kH, kB, kz, qz⟩ := h
  cases rx
  obtain ⟨u, rfl, ru⟩ := rw1.one
  cases ru
  obtain ⟨z, vz, n, r, kl, e⟩ := J.lstM kH
  obtain ⟨vz2, r2, ⟨o, ko, kc, n2, kd⟩, kz2⟩ := J.tuple kB
  have hl2 := r2.length
  have kne : l ≠ b := fun qz => by
    subst qz
    rw [e] at ko
    cases ko
    have hc' : Value.type "list" = Value.type "tuple" := kc
    injection hc' with g1
    exact absurd g1 (by decide)
  have ksz : vz.toArray.size + vz2.toArray.size ≤ sizeLine := by rw [List.size_toArray, List.size_toArray]; omega
  refine call_meets (S := fun _ R s' => s' = s ∧ R (.ok (.ret Value.none)) { s with heap := s.heap.update l (Obj.mapSeq fun x => x ++ vz2.toArray) }) F.slot_list_extend ⟨_, e, rfl⟩ F.entry_list_extend (F.args_list_extend_2 _ _) ?_ ⟨rfl, ?_⟩
  · refine .of_wp fun prog w A R s' h => ?_
    obtain ⟨ks, h⟩ := h
    subst ks
    exact extend_tup e ko kc kd kne ksz ⟨_, rfl, h⟩
  · refine ⟨.non, _, J.lset (its' := vz ++ vz2) kH e (by simp) (r.append r2) ?_, rfl, qz⟩
    rw [List.length_append]
    omega
end
/-! ### enumerate(tuple) -/
/-- the enumerate object over the iterator at i -/
abbrev eOb (i : Addr) : Obj := { cls := .type "enumerate", data := .fields #[.none, .bool false, .ref i, rawInt 0, .none, .none] }
theorem meets_enum1 {v : Value} {o : Obj} {Hh : Heap → Prop} (Bz : Begins v o Hh) :
    Meets (Builtin.«enumerate.__new__» ⟨[.type "enumerate", v], []⟩) (fun _ R s => Hh s.heap ∧
      R (.ok (.ret (.ref (s.heap.push o).objs.size))) { s with heap := (s.heap.push o).push (eOb s.heap.objs.size) }) :=
  .of_wp fun pp ww A R s h => by
    obtain ⟨hp, g, d, tk, os⟩ := s; obtain ⟨g1, h⟩ := h
    have hsub := sub_enumerate
    have qz1 : ∀ {A' : Around} {Ez : Value → Shared → Prop} {Qz : Value → Shared → Prop}, Qz (.ref hp.objs.size) ⟨hp.push o, g, d, tk, os⟩ → wpAny (model pp ww) A' (pyIter v) Qz Ez ⟨hp, g, d, tk, os⟩ :=
      fun qz => Bz.iter pp ww _ _ ⟨hp, g, d, tk, os⟩ _ g1 qz
    wp_walk using qz1
    refine wpAny_stack_any fun zs => wpAny_pure ?_
    split
    · rename_i cz _ _ _ _ _
      cases (cz == Value.type "enumerate")
      · wp_walk using qz1
        exact ⟨_, rfl, h⟩
      · wp_walk using qz1
        exact ⟨_, rfl, h⟩
    · wp_walk using qz1
      exact ⟨_, rfl, h⟩
section
variable {prog : Program} {w : World} {A : Around} {Ez : Value → Shared → Prop} {s : Shared}
theorem call_enum1 {v : Value} {o : Obj} {Hh : Heap → Prop} {Qz : Value → Shared → Prop} (Bz : Begins v o Hh) (g1 : Hh s.heap)
    (h : ∀ h', IsEnum h' (s.heap.objs.size + 1) s.heap.objs.size 0 .none → h'.get? s.heap.objs.size = some o → h'.objs.size = s.heap.objs.size + 2 →
      (∀ b o, s.heap.get? b = some o → h'.get? b = some o) → Qz (.ref (s.heap.objs.size + 1)) { s with heap := h' }) :
    wpAny (model prog w) A (call (.type "enumerate") [v]) Qz Ez s := by
  have kz := Heap.size_push s.heap o
  have ke : IsEnum ((s.heap.push o).push (eOb s.heap.objs.size)) (s.heap.objs.size + 1) s.heap.objs.size 0 .none := kz ▸ Heap.get?_push_size (s.heap.push o) (o := eOb s.heap.objs.size) rfl
  refine callType_new F.called_enumerate (by decide)
    (F.typeCall_enumerate_1 _) (F.newCall_enumerate_1 _) (fun z => F.args_object_init_2 z _)
    F.entry_enumerate_new (meets_enum1 Bz) ⟨g1, ?_⟩
  show _ ∧ _
  rw [kz]
  refine ⟨⟨_, ke, rfl⟩, h _ ke (Heap.get?_push_of_some _ (Heap.get?_push_size _ Bz.free)) (by rw [Heap.size_push, kz]) fun b o x => Heap.get?_push_of_some _ (Heap.get?_push_of_some _ x)⟩
end
section
variable {prog : Program} {w : World} {A : Around} {Ez : Value → Shared → Prop} {s : Shared}
theorem pyNext_enum_end {e it t : Addr} {i : Nat} {items : Array Value} {c : Int} {olz : Value} {Qz : Option Value → Shared → Prop} (kx : items[i]? = none)
    (kh : A.in1.handled = none) (ke : IsEnum s.heap e it c olz) (kit : s.heap.IsTupleIter it t i) (ht : s.heap.IsTuple t items)
    (hQ : ∀ h', Heap.ExtBut it s.heap h' → Qz none { s with heap := h' }) : wpAny (model prog w) A (pyNext (.ref e)) Qz Ez s := by
  have kT : s.TypeIs (.ref e) "enumerate" := ⟨_, ke, rfl⟩
  unfold pyNext
  refine wpAny_bind (wpAny_attempt (wpAny_callSpecial?_slot (name := Str.ofString "__next__") kT F.slot_enumerate_next
    (wpAny_call_entry F.slot_enumerate_next kT F.entry_enumerate_next ?_ (F.args_enumerate_next_1 _))))
  show wpAny _ _ (field (Value.ref e) 2 >>= _) _ _ s
  refine wpAny_bind (wpAny_field ke rfl (x := .ref it) rfl ?_)
  refine wpAny_bind (wpAny_nextOf_tuple_end kh kit ht kx fun h' x ke' hx' => ?_)
  obtain ⟨o, ko, kc⟩ := hx'
  refine wpAny_bind (wpAny_isInstance (T := "StopIteration") (b := true) ⟨o, ko, kc⟩ isSubtype_stop ?_)
  exact wpAny_pure (hQ _ ke')
end
/-- the tuple at a, each item in a nw pair -/
def IteT (K : PySem.W.Frag) (a : Addr) : It :=
  ⟨fun i Hh => ∃ (xs : List V) (x : V), SqT K Hh a xs ∧ xs[i]? = some x, fun i Hh v H' => ∃ T x, v = .ref T ∧ Hh T = none ∧ H' = upd Hh T (.tup [.int (i : Nat), x]) ∧ ∀ xs, SqT K Hh a xs → xs[i]? = some x, fun i Hh => ∃ xs : List V, SqT K Hh a xs ∧ xs.length ≤ i⟩
theorem turn_enumT {P : Program} {w : World} {K : PySem.W.Frag} {elts : List Expr} {kk : Nat} {tpos : Pos} (a e it : Addr) :
    Turn P w K (.Tuple elts kk tpos) (IteT K a) [e, it] e (fun i h => (∃ olz, IsEnum h e it ((i : Nat) : Int) olz) ∧ h.IsTupleIter it a i ∧ e ≠ it ∧ a ≠ e ∧ a ≠ it) where
  mem := by simp
  obj := fun i h st b kb => by
    obtain ⟨⟨olz, ke⟩, ⟨o, ko, kc, kd⟩, _⟩ := st
    have ee : b = e ∨ b = it := by simpa using kb
    rcases ee with z | z
    · rw [z]; exact ⟨_, ke, fun v qz => nomatch qz⟩
    · rw [z]; exact ⟨o, ko, fun v qz => by rw [kd] at qz; cases qz⟩
  keep := fun i h h' st k => let ⟨⟨olz, ke⟩, hi, kne⟩ := st; ⟨⟨olz, k e (by simp) _ ke⟩, hi.at fun o qz => k it (by simp) o qz, kne⟩
  item := by
    intro X kP kw kK kc i pz s sg Hh Ez J kf st kg
    subst kP kw kK
    obtain ⟨⟨olz, ke⟩, kit, kne, kae, kai⟩ := st
    obtain ⟨xs, x, kq, kx⟩ := kg
    obtain ⟨vz, rw1, p, kz⟩ := J.tuple kq
    have kel : e < s.heap.objs.size := Heap.lt_size ke
    have kil : it < s.heap.objs.size := by obtain ⟨_, qz, _⟩ := kit; exact Heap.lt_size qz
    have hix : i < vz.toArray.size := by
      have := rw1.length
      have h2 := (List.getElem?_eq_some_iff.mp kx).1
      rw [List.size_toArray]
      omega
    have Dz := Draws.tuple (prog := X.prog) (w := X.w) (A := X.A.in1) (show X.A.in1.handled = none from J.ok.hd kc) it a kai vz.toArray
    refine wpAny_pyNext_enum_itemD Dz ke ⟨kit, p⟩ hix kne (by simp [kne, Ne.symm kae]) fun u h' tk ku ko hit' kT ksz kk => ?_
    have ru : RelV x u := by
      obtain ⟨u2, hu2, r2⟩ := rw1.get kx
      have e3 : u2 = u := by
        have ku' : vz[i]? = some u := by simpa using ku
        exact Option.some.inj (hu2.symm.trans ku')
      exact e3 ▸ r2
    refine ⟨_, rfl, wpAny_letOwnedTupleGo_enum (s := { s with heap := h', toks := tk + 1 }) ko fun h'' ke' sbz => ?_⟩
    have kT2 : h''.get? s.heap.objs.size = some { cls := .type "tuple", data := .seq #[.int i tk, u] } := (sbz.2 _ (Nat.ne_of_gt kel)).trans kT
    have nw : ObjOk X.prog X.w (upd Hh s.heap.objs.size (.tup [.int (i : Nat), x])) h'' s.heap.objs.size (.tup [.int (i : Nat), x]) :=
      ⟨by show 2 ≤ sizeLine; decide, [.int i tk, u], .cons ⟨_, rfl⟩ (.cons ru .nil), ⟨_, kT2, rfl, _, rfl⟩⟩
    have J1 : Inv X pz sg (upd Hh s.heap.objs.size (.tup [.int (i : Nat), x])) { s with heap := h'', toks := tk + 1 } :=
      J.turnedNew (ch := [e, it]) (fun b ob kb qz => (sbz.2 b (fun z => kb (by simp [z]))).trans (kk b ob (fun z => kb (by simp [z])) (fun z => kb (by simp [z])) qz)) kf (Nat.le_refl _) nw
    refine ⟨.ref s.heap.objs.size, _, J1, rfl, ⟨_, x, rfl, J.hok.fresh (Nat.le_refl _), rfl, fun ys hy => by rw [J.tuple_inj hy kq]; exact kx⟩, ⟨⟨u, ?_⟩, hit'.1.at fun o qz => (sbz.2 it (Ne.symm kne)).trans qz, kne, kae, kai⟩, fun b kb => ?_⟩
    · have e1 : (((i + 1 : Nat)) : Int) = (i : Int) + 1 := by omega
      rw [e1]; exact ke'
    · have kb' : b < s.heap.objs.size := by
        have ee : b = e ∨ b = it := by simpa using kb
        rcases ee with z | z
        · rw [z]; exact kel
        · rw [z]; exact kil
      rw [upd_ne (Nat.ne_of_lt kb')]
      exact (kf b kb).1
  done := by
    intro X kP kw kK kc i pz s sg Hh Ez J kf st kg
    subst kP kw kK
    obtain ⟨⟨olz, ke⟩, kit, kne, kae, kai⟩ := st
    obtain ⟨xs, kq, kx⟩ := kg
    obtain ⟨vz, rw1, p, kz⟩ := J.tuple kq
    obtain ⟨f0, f1, f2, f3, f4, f5⟩ := kf it (by simp)
    have hl := rw1.length
    exact pyNext_enum_end (by simp; omega) (show X.A.in1.handled = none from J.ok.hd kc) ke kit p fun h' eb => ⟨rfl, J.turned (t' := s.toks) (fun b o kb qz => eb b o kb qz) f0 f1 f3 f4 f5⟩
  self := fun A i s Qz Ez st h => let ⟨⟨_, ke⟩, _⟩ := st; wpAny_pyIter_enum ke h
def iEnumT (K : PySem.W.Frag) (ta : TA) : TI := fun sg Hh R => ta sg Hh fun vs H1 => ∃ a xs, vs = [.ref a] ∧ SqT K H1 a xs ∧ R (IteT K a) H1
theorem pi_enumT {X : Cx} {e : Expr} {ta : TA} {p pos tpos : Pos} {elts : List Expr} {kk : Nat} (kg : Gl X "enumerate") (km : X.mg "enumerate" = none) (ka : PA X [e] ta) (ks : starEach [e] X.env = [(false, eval e X.env)] := by rfl) :
    PI X (.Tuple elts kk tpos) (.Call (.Name "enumerate" p) [e] [] pos) (iEnumT X.K ta) := by
  refine ⟨fun pz s sg Hh R J h => ?_⟩
  refine Call_ (ld_blt J kg km boot_enumerate (PyProof.Rows.callWith_type1 (thn (ka.run pos pz s sg Hh _ J h) fun us s1 ⟨vs, H1, J1, r1, qz1⟩ => ?_) ks rfl))
  obtain ⟨a, xs, ex, kq, qz⟩ := qz1
  subst ex
  cases r1 with
  | cons r rr =>
    cases rr
    cases r
    obtain ⟨vz, rw1, p', kz⟩ := J1.tuple kq
    have hal : a < s1.heap.objs.size := p'.lt
    refine call_enum1 (begins_tuple a vz.toArray) p' fun h' ke kit ksz kk => wpAny_pyIter_enum ke ?_
    have J2 : Inv X pz sg H1 { s1 with heap := h' } := J1.kept (t' := s1.toks) kk
    refine ⟨s1.heap.objs.size + 1, [s1.heap.objs.size + 1, s1.heap.objs.size], _, _, H1, rfl, J2, turn_enumT a (s1.heap.objs.size + 1) s1.heap.objs.size, ⟨⟨.none, ke⟩, ⟨_, kit, rfl, rfl⟩, Nat.succ_ne_self _, Nat.ne_of_lt (Nat.lt_succ_of_lt hal), Nat.ne_of_lt hal⟩, fun b kb => ?_, qz⟩
    have ee : b = s1.heap.objs.size + 1 ∨ b = s1.heap.objs.size := by simpa using kb
    have kle : s1.heap.objs.size ≤ b := by
      rcases ee with z | z
      · subst z; exact Nat.le_succ _
      · rw [z]; exact Nat.le_refl _
    exact J1.fpOk kle (J1.hok.fresh kle)
theorem walk_enumT {K : PySem.W.Frag} {a : Addr} {xs : List V} : Walk (IteT K a) xs.length (fun Hh => SqT K Hh a xs) (YPair (fun i => some (.int (i : Nat))) (fun i => xs[i]?)) := by
  refine ⟨fun i _ hi qz => ⟨xs, xs[i], qz, by simp [hi]⟩, fun _ qz => ⟨xs, qz, Nat.le_refl _⟩, fun i Hh v H' _ qz y => ?_⟩
  obtain ⟨T, x, g1, g2, g3, g4⟩ := y
  exact ⟨T, .int (i : Nat), x, g1, g2, g3, rfl, g4 xs qz⟩
/-! ### C( *xs), C() by a positional promise -/
def tMakeS (K : PySem.W.Frag) (C : Addr) (sp : Sp) (Ez : XK) (te : TE) : TE := fun sg Hh Qz => te sg Hh fun y H1 => ∃ a xs, y = V.ref a ∧ (SqT K H1 a xs ∨ SqL K H1 a xs) ∧ ∀ x dx, H1 x = Option.none → H1 dx = Option.none → dx ≠ x →
  sp (V.ref x :: xs) (upd (upd H1 dx (.own x)) x (.ins C dx [])) (fun v H2 => v = .non ∧ Qz (.ref x) H2) Ez
section
variable {X : Cx} {CX : CXT} {k : Nat} {f C : Addr} {sp : Sp} {Ez : XK} {x : Str} {e : Expr} {te : TE} {p sp_ pos : Pos}
theorem pe_makeS (M : Mk X.K C f) (F : FnR X.prog X.w X.K X.mg X.base CX k f sp) (kr : Room (k + 1) X.A) (kg : Gl X x) (km : X.mg x = some (.ref C)) (kx : Passes CX X Ez) (ke : PE X e te) (kdb : (x == ("__debug__" : Str)) = false := by decide)
    (kst : starEach [.Starred e sp_] X.env = [(true, eval e X.env)] := by rfl) : PE X (.Call (.Name x p) [.Starred e sp_] [] pos) (tMakeS X.K C sp Ez te) := by
  refine ⟨fun pz s sg Hh Qz J h => ?_⟩
  refine wpAny_Call_Name_kw (ld_glob J kg km ?_ kdb)
  refine PySem.W.callWith_S (h₀ := X.base) J.ok.mod.kin M.kp (thn (ke.run pz s sg Hh _ J h) fun v s1 ⟨y, H1, J1, ry, a, xs, ey, kxs, qz⟩ => ?_) kst
  subst ey
  cases (show v = Value.ref a from ry)
  exact StX.star_any J1 kxs fun us s2 J2 rw1 => ⟨J2.kIn, StX.run_makeR M F kr kx J2 rw1 qz⟩
theorem pe_makeR0 (M : Mk X.K C f) (F : FnR X.prog X.w X.K X.mg X.base CX k f sp) (kr : Room (k + 1) X.A) (kg : Gl X x) (km : X.mg x = some (.ref C)) (kx : Passes CX X Ez) (kdb : (x == ("__debug__" : Str)) = false := by decide) :
    PE X (.Call (.Name x p) [] [] pos) (StX.tMakeR C sp Ez tNil) := by
  refine ⟨fun pz s sg Hh Qz J h => ?_⟩
  refine wpAny_Call_Name_kw (ld_glob J kg km ?_ kdb)
  exact PySem.W.callWith_K0 J.kIn M.kp (StX.run_makeR (us := []) M F kr kx J .nil h)
end
/-! ### f(e, ..) by a positional promise -/
section
variable {X : Cx} {CX : CXT} {k : Nat} {f : Addr} {sp : Sp} {Ez : XK} {x : Str} {e : Expr} {es : List Expr} {t : TA} {p pos : Pos}
theorem pe_callR (F : FnR X.prog X.w X.K X.mg X.base CX k f sp) (kr : Room k X.A) (kg : Gl X x) (km : X.mg x = some (.ref f)) (kk : PySem.W.keepIn X.K (.ref f) = true) (kx : Passes CX X Ez) (ka : PA X (e :: es) t) (kdb : (x == ("__debug__" : Str)) = false := by decide)
    (ke : starEach (e :: es) X.env = (false, eval e X.env) :: starEach es X.env := by rfl) (kpl : (backTo pos (starEach es X.env)).any (·.1) = false := by rfl) :
    PE X (.Call (.Name x p) (e :: es) [] pos) (fun sg Hh Qz => t sg Hh fun vs H1 => sp vs H1 Qz Ez) := by
  refine ⟨fun pz s sg Hh Qz J h => ?_⟩
  refine wpAny_Call_Name_kw (ld_glob J kg km ?_ kdb)
  refine PySem.W.callWith_K (h₀ := X.base) J.ok.mod.kin kk (thn (ka.run pos pz s sg Hh _ J h) fun us s1 ⟨vs, H1, J1, r, qz⟩ => ⟨J1.kIn, ?_⟩) ke kpl
  exact wpAny_call (run_fnR F kr kx J1 r qz)
end
/-- a def of the module as a callee: where it is, that it is kept, vz promise -/
structure Dn (P : Program) (w : World) (K : PySem.W.Frag) (mg : Str → Option Value) (base : Heap) (k : Nat) (x : Str) (f : Addr) (sp : Sp) : Prop where
  at_ : mg x = some (.ref f)
  kp : PySem.W.keepIn K (Value.ref f) = true
  ok : FnR P w K mg base CX0 k f sp
/-! ### *steps: the tuple that a call lays is locked -/
section
variable {CX : CXT} {P : Program} {w : World} {K : PySem.W.Frag} {mg : Str → Option Value} {base : Heap} {k : Nat} {f : Addr} {name qual : Str} {params : Arguments} {body : List Stmt} {scope : Scope} {dV kV doc pm cdv ct oc : Value} {an od : Option Addr} {osl : Array (Option Value)} {N ps : List Str} {sp : Sp} {pv : Str}
theorem fn_starZ (lk : K.lookup f = some ⟨oc, od, .func (PySem.W.fnOf name qual params body scope dV kV doc pm an cdv ct), osl⟩) (hcd : PySem.W.codeIn K cdv qual = true) (S : FnScope N (ps ++ [pv]) scope) (hCX : StX.CXUp CX)
    (hb : ∀ us rest : List Value, us.length = ps.length → bindArgs (PySem.W.fnOf name qual params body scope dV kV doc pm an cdv ct) ⟨us ++ rest, []⟩ = (newTuple rest >>= fun t => pure (ps.zip us ++ [(pv, t)]))) (hy : ∀ (A : Around) (outer : List Env) (s : Shared) (H : Hp) (vs : List V) (Q : VK) (E : XK), Room k (A.deeper (envOfC qual scope s.heap.objs.size f cdv)) → sp vs H Q E → ∃ t, PSs (cxOf CX P w K mg base N qual scope f cdv A outer s H E) body t ∧ t { nx := fun _ H' => Q .non H', rt := Q } (L2.start N vs) H) :
    FnR P w K mg base CX (k + 1) f (fun vs H Q E => ∃ ws rest, vs = ws ++ rest ∧ ws.length = ps.length ∧ rest.length ≤ sizeLine ∧ ∀ (p : Addr) (ob : Obj), H p = Option.none → ob.dict = Option.none → sp (ws ++ [V.ref p]) (upd H p (.frz ob (.tup rest))) Q E) := by
  rintro A outer s H us vs Q E hr e0 r ⟨ws, rest, rfl, hl, hz, hq⟩
  obtain ⟨u1, u2, rfl, r1, r2⟩ := StX.vals_split r
  have hn : H s.heap.objs.size = Option.none := e0.hok.fresh (Nat.le_refl _); have l1 : u1.length = ps.length := r1.length.symm.trans hl
  have l2 : u2.length ≤ sizeLine := (by rw [← r2.length]; exact hz)
  refine StX.run_bnd lk hcd S hr e0 (G := fun xs H2 => ∃ (p : Addr) (ob : Obj), H p = Option.none ∧ ob.dict = Option.none ∧ xs = ws ++ [V.ref p] ∧ H2 = upd H p (.frz ob (.tup rest))) (fun A' Ex Q' h => ?_) fun s2 H2 xs ⟨p, ob, hp, hd, ex, eH⟩ hr' => ?_
  · rw [hb u1 u2 l1]
    refine wpAny_bind (wpAny_newTuple (wpAny_pure ?_) l2)
    have at_ : (s.heap.push ({ cls := .type "tuple", data := .seq u2.toArray } : Obj)).get? s.heap.objs.size = some { cls := .type "tuple", data := .seq u2.toArray } := Heap.get?_push_size _ rfl
    have new : ObjOk P w (upd H s.heap.objs.size (.frz { cls := .type "tuple", data := .seq u2.toArray } (.tup rest))) (s.heap.push ({ cls := .type "tuple", data := .seq u2.toArray } : Obj)) s.heap.objs.size (.frz { cls := .type "tuple", data := .seq u2.toArray } (.tup rest)) :=
      ⟨at_, hz, u2, r2, ⟨_, at_, rfl, _, rfl⟩⟩
    have un := StX.un_laid (fs := frs outer) (s := s) (o := ({ cls := .type "tuple", data := .seq u2.toArray } : Obj)) (u := .frz { cls := .type "tuple", data := .seq u2.toArray } (.tup rest)) hn
    have z := h _ _ (ws ++ [V.ref s.heap.objs.size]) (u1 ++ [Value.ref s.heap.objs.size]) (StX.env0_laid e0 new) un rfl (fun e s' => hCX outer s H _ _ E e s' un (fun b o q => Heap.get?_push_of_some _ q) rfl) (r1.append (.cons rfl .nil))
      (by rw [List.length_append, List.length_append, hl] <;> rfl) ⟨_, { cls := .type "tuple", data := .seq u2.toArray }, hn, rfl, rfl, rfl⟩
    rw [List.zip_append l1.symm] at z
    exact z
  · subst ex eH
    exact hy A outer s2 _ _ Q E hr' (hq p ob hp hd)
end
end Cc

/-! The data (steps, plans, the drawing's state over the heap) and the mathematics. -/
namespace Cc
open PySem PySem.Spec PyProof.Rows L2
/-! ### steps -/
inductive Stp where
  | turn
  | meet (red : Bool) (n : Int)
def roomS (b : Bool) : Str := if b then "red" else "blue"
def stpV : Stp → List V
  | .turn => [.str "turn"]
  | .meet b n => [.str (roomS b), .int n]
def Stp.ok (c : Int) : Stp → Prop
  | .turn => True
  | .meet _ n => 0 ≤ n ∧ n ≤ c
theorem Stp.ok.mono {s : Stp} {c d : Int} (h : s.ok c) (hd : c ≤ d) : s.ok d := by
  cases s with
  | turn => trivial
  | meet b n => exact ⟨h.1, Int.le_trans h.2 hd⟩
def mx (i j : Int) : Int := if j > i then j else i
theorem mx_eq (i j : Int) : mx i j = max i j := by unfold mx; omega
/-- what a step leaves in the red room, and carries: the code's own way -/
def stepF (c : Int) (s : Stp) (r : Int) : Int × Int := match s with
  | .turn => (c - r, 0)
  | .meet true n => (r + mx 0 (n - r), mx 0 (n - r))
  | .meet false n => (r - mx 0 (n - (c - r)), mx 0 (n - (c - r)))
/-- steps: the red room, the sum -/
def stepsF (c : Int) : List Stp → Int × Int → Int × Int
  | [], x => x
  | s :: ss, x => stepsF c ss ((stepF c s x.1).1, x.2 + (stepF c s x.1).2)
theorem stepsF_app (c : Int) : ∀ (a b : List Stp) (x : Int × Int), stepsF c (a ++ b) x = stepsF c b (stepsF c a x)
  | [], _, _ => rfl
  | s :: a, b, x => by
    show stepsF c (a ++ b) _ = stepsF c b (stepsF c a _)
    exact stepsF_app c a b _
theorem stepsF_one (c : Int) (a : List Stp) (s : Stp) (x : Int × Int) : stepsF c (a ++ [s]) x = ((stepF c s (stepsF c a x).1).1, (stepsF c a x).2 + (stepF c s (stepsF c a x).1).2) := by
  rw [stepsF_app]
  rfl
theorem stepsF_add (c : Int) : ∀ (a : List Stp) (r t : Int), stepsF c a (r, t) = ((stepsF c a (r, 0)).1, t + (stepsF c a (r, 0)).2)
  | [], r, t => by simp [stepsF]
  | s :: a, r, t => by
    show stepsF c a _ = ((stepsF c a _).1, t + (stepsF c a _).2)
    rw [stepsF_add c a (stepF c s r).1 (t + (stepF c s r).2), stepsF_add c a (stepF c s r).1 (0 + (stepF c s r).2)]
    simp only [Prod.mk.injEq, true_and]
    omega
theorem take_more {α : Type} : ∀ {l : List α} {i : Nat} {x : α}, l[i]? = some x → l.take (i + 1) = l.take i ++ [x]
  | [], i, x, h => by simp at h
  | a :: l, 0, x, h => by
    have e : a = x := Option.some.inj h
    subst e
    rfl
  | a :: l, i + 1, x, h => by
    have ih := take_more (l := l) (i := i) (x := x) h
    show a :: l.take (i + 1) = a :: l.take i ++ [x]
    rw [ih]
    rfl
/-- the red room stays within the house -/
theorem stepF_in {c : Int} {s : Stp} {r : Int} (hs : s.ok c) (h0 : 0 ≤ r) (h1 : r ≤ c) : 0 ≤ (stepF c s r).1 ∧ (stepF c s r).1 ≤ c ∧ 0 ≤ (stepF c s r).2 ∧ (stepF c s r).2 ≤ c := by
  cases s with
  | turn => simp only [stepF]; omega
  | meet b n =>
    obtain ⟨h2, h3⟩ := hs
    cases b <;> simp only [stepF, mx] <;> split <;> omega
theorem stepsF_in {c : Int} : ∀ {ss : List Stp} {r t : Int}, (∀ s ∈ ss, s.ok c) → 0 ≤ r → r ≤ c → 0 ≤ t → 0 ≤ (stepsF c ss (r, t)).1 ∧ (stepsF c ss (r, t)).1 ≤ c ∧ 0 ≤ (stepsF c ss (r, t)).2
  | [], r, t, _, h0, h1, ht => ⟨h0, h1, ht⟩
  | s :: ss, r, t, hs, h0, h1, ht => by
    obtain ⟨a, b, d, _⟩ := stepF_in (hs s List.mem_cons_self) h0 h1
    exact stepsF_in (ss := ss) (fun x hx => hs x (List.mem_cons_of_mem _ hx)) a b (by show 0 ≤ t + (stepF c s r).2; omega)
/-- rounds -/
def roundsF (c : Int) (ss : List Stp) : Nat → Int × Int → Int × Int
  | 0, x => x
  | n + 1, x => roundsF c ss n (stepsF c ss x)
theorem roundsF_succ (c : Int) (ss : List Stp) : ∀ (n : Nat) (x : Int × Int), roundsF c ss (n + 1) x = stepsF c ss (roundsF c ss n x)
  | 0, x => rfl
  | n + 1, x => by
    show roundsF c ss (n + 1) (stepsF c ss x) = _
    rw [roundsF_succ c ss n (stepsF c ss x)]
    rfl
theorem roundsF_in {c : Int} {ss : List Stp} (hs : ∀ s ∈ ss, s.ok c) : ∀ {n : Nat} {r t : Int}, 0 ≤ r → r ≤ c → 0 ≤ t → 0 ≤ (roundsF c ss n (r, t)).1 ∧ (roundsF c ss n (r, t)).1 ≤ c ∧ 0 ≤ (roundsF c ss n (r, t)).2
  | 0, r, t, h0, h1, ht => ⟨h0, h1, ht⟩
  | n + 1, r, t, h0, h1, ht => by
    rw [roundsF_succ]
    obtain ⟨a, b, d⟩ := roundsF_in hs (n := n) h0 h1 ht
    exact stepsF_in hs a b d
/-- behind n rounds -/
def afterF (c : Int) (ss : List Stp) (r : Int) (n : Nat) : Int × Int := roundsF c ss n (r, 0)

/-! ### steps over the heap -/
def StepAt (H : Hp) (v : V) (s : Stp) : Prop := ∃ t, v = .ref t ∧ H t = some (.tup (stpV s))
def Steps (H : Hp) (vs : List V) (ss : List Stp) : Prop := Paired (StepAt H) vs ss
theorem Steps.get {H : Hp} : ∀ {vs : List V} {ss : List Stp} {i : Nat} {v : V}, Steps H vs ss → vs[i]? = some v → ∃ s, ss[i]? = some s ∧ StepAt H v s
  | [], [], i, v, .nil, e => by simp at e
  | _, _, 0, v, .cons r _, e => by
    have e' : _ = v := Option.some.inj e
    subst e'
    exact ⟨_, rfl, r⟩
  | _, _, i + 1, v, .cons _ t, e => by
    obtain ⟨s, h1, h2⟩ := Steps.get (i := i) (v := v) t e
    exact ⟨s, h1, h2⟩
theorem Steps.length {H : Hp} {vs : List V} {ss : List Stp} (h : Steps H vs ss) : vs.length = ss.length := Paired.length h
theorem Steps.append {H : Hp} : ∀ {vs ws : List V} {ss us : List Stp}, Steps H vs ss → Steps H ws us → Steps H (vs ++ ws) (ss ++ us)
  | _, _, _, _, .nil, b => b
  | _, _, _, _, .cons r t, b => .cons r (Steps.append t b)
theorem Steps.mono {H H' : Hp} {vs : List V} {ss : List Stp} (h : Steps H vs ss) (k : ∀ t xs, H t = some (.tup xs) → H' t = some (.tup xs)) : Steps H' vs ss :=
  Paired.mapP h fun _ _ ⟨t, e, q⟩ => ⟨t, e, k t _ q⟩
theorem Steps.same {H H' : Hp} {vs : List V} {ss : List Stp} (h : Steps H vs ss) (k : Same H H') : Steps H' vs ss := h.mono fun t xs e => k t _ e
theorem Steps.get2 {H : Hp} {vs : List V} {ss : List Stp} (h : Steps H vs ss) {i : Nat} {s : Stp} (e : ss[i]? = some s) : ∃ v, vs[i]? = some v ∧ StepAt H v s := by
  have hi : i < vs.length := by rw [h.length]; exact (List.getElem?_eq_some_iff.mp e).1
  obtain ⟨s', h1, h2⟩ := h.get (List.getElem?_eq_getElem hi)
  rw [e] at h1
  cases h1
  exact ⟨_, List.getElem?_eq_getElem hi, h2⟩
/-- a tuple that is locked and has no dict of its own -/
def TupP (H : Hp) (tp : Addr) (ws : List V) : Prop := ∃ o : Obj, o.dict = none ∧ H tp = some (.frz o (.tup ws))
theorem TupP.same {H H' : Hp} {tp : Addr} {ws : List V} (h : TupP H tp ws) (k : Same H H') : TupP H' tp ws :=
  let ⟨o, d, e⟩ := h
  ⟨o, d, k _ _ e⟩
theorem TupP.sq {K : PySem.W.Frag} {H : Hp} {tp : Addr} {ws : List V} (h : TupP H tp ws) : SqT K H tp ws :=
  let ⟨o, _, e⟩ := h
  .inl (.inr ⟨o, e⟩)
theorem TupP.ne {H : Hp} {tp l : Addr} {ws : List V} (h : TupP H tp ws) (hl : H l = none) : tp ≠ l := fun z => by
  obtain ⟨o, _, e⟩ := h
  rw [z, hl] at e
  cases e
/-- a plan -/
def PlanAt (C : Addr) (H : Hp) (p : Addr) (ss : List Stp) : Prop := ∃ dx tp ws, H p = some (.ins C dx [("step_tuple", .ref tp)]) ∧ TupP H tp ws ∧ Steps H ws ss
theorem PlanAt.same {C : Addr} {H H' : Hp} {p : Addr} {ss : List Stp} (h : PlanAt C H p ss) (k : Same H H') : PlanAt C H' p ss :=
  let ⟨dx, tp, ws, a, b, d⟩ := h
  ⟨dx, tp, ws, k _ _ a, b.same k, d.same k⟩
/-- all but what stands at s is as it was -/
def But (s : Addr) (H H' : Hp) : Prop := ∀ b o, b ≠ s → H b = some o → H' b = some o
theorem But.refl (s : Addr) (H : Hp) : But s H H := fun _ _ _ e => e
theorem But.trans {s : Addr} {H H1 H2 : Hp} (a : But s H H1) (b : But s H1 H2) : But s H H2 := fun c o n e => b c o n (a c o n e)
theorem But.of {s : Addr} {H H' : Hp} (a : Same H H') : But s H H' := fun c o _ e => a c o e
/-- a list that nobody writes: locked, or of the written part -/
def SqF (K : PySem.W.Frag) (H : Hp) (a : Addr) (xs : List V) : Prop := (∃ o, H a = some (.frz o (.lst xs))) ∨ SqL K (fun _ => none) a xs
theorem SqF.sq {K : PySem.W.Frag} {H : Hp} {a : Addr} {xs : List V} (h : SqF K H a xs) : SqL K H a xs := by
  rcases h with h | ((h | ⟨o, h⟩) | h)
  · exact .inl (.inr h)
  · cases h
  · cases h
  · exact .inr h
theorem SqF.keep {K : PySem.W.Frag} {H H' : Hp} {a : Addr} {xs : List V} (h : SqF K H a xs) (k : ∀ b o u, H b = some (.frz o u) → H' b = some (.frz o u)) : SqF K H' a xs := by
  rcases h with ⟨o, h⟩ | h
  · exact .inl ⟨o, k _ _ _ h⟩
  · exact .inr h
theorem sqF_of {K : PySem.W.Frag} {H : Hp} {a : Addr} {xs : List V} (h : SqL K H a xs) (o : Only H) : SqF K H a xs := by
  rcases h with (h | h) | h
  · rcases o a with q | ⟨ob, ys, q⟩
    · rw [q] at h
      cases h
    · rw [q] at h
      cases h
  · exact .inl h
  · exact .inr (.inr h)
/-- the drawing's state: a list of the script, a place, two numbers -/
def DrawAt (K : PySem.W.Frag) (H : Hp) (s : Addr) : Prop := ∃ (a : Addr) (ns : List Int) (p x y : Int), H s = some (.lst [.ref a, .int p, .int x, .int y]) ∧ SqF K H a (ns.map V.int) ∧ ns.length ≤ 63 ∧ 0 ≤ p
theorem DrawAt.lst {K : PySem.W.Frag} {H : Hp} {s : Addr} (h : DrawAt K H s) : ∃ xs, H s = some (.lst xs) := let ⟨_, _, _, _, _, e, _⟩ := h; ⟨_, e⟩
theorem DrawAt.same {K : PySem.W.Frag} {H H' : Hp} {s : Addr} (h : DrawAt K H s) (k : Same H H') : DrawAt K H' s :=
  let ⟨a, ns, p, x, y, e, q, l, z⟩ := h
  ⟨a, ns, p, x, y, k _ _ e, q.keep fun b o u e => k b _ e, l, z⟩
/-- .. a list changed elsewhere -/
theorem DrawAt.but {K : PySem.W.Frag} {H H' : Hp} {s l : Addr} (h : DrawAt K H s) (k : But l H H') (hl : ∃ xs, H l = some (.lst xs)) (n : s ≠ l) : DrawAt K H' s :=
  let ⟨a, ns, p, x, y, e, q, z⟩ := h
  ⟨a, ns, p, x, y, k _ _ n e, q.keep fun b o u e => k b _ (let ⟨_, e2⟩ := hl; ne_of e e2 (fun q => nomatch q)) e, z⟩
theorem Steps.but {H H' : Hp} {s : Addr} {vs : List V} {ss : List Stp} (h : Steps H vs ss) (k : But s H H') (hs : ∃ xs, H s = some (.lst xs)) : Steps H' vs ss :=
  h.mono fun t xs e => k t _ (let ⟨_, e2⟩ := hs; ne_of e e2 (fun q => nomatch q)) e
theorem PlanAt.but {C : Addr} {H H' : Hp} {p s : Addr} {ss : List Stp} (h : PlanAt C H p ss) (k : But s H H') (hs : ∃ xs, H s = some (.lst xs)) : PlanAt C H' p ss := by
  obtain ⟨dx, tp, ws, a, b, d⟩ := h
  obtain ⟨ys, e2⟩ := id hs
  obtain ⟨o, d0, b'⟩ := b
  exact ⟨dx, tp, ws, k _ _ (ne_of a e2 (fun q => nomatch q)) a, ⟨o, d0, k _ _ (ne_of b' e2 (fun q => nomatch q)) b'⟩, d.but k hs⟩
theorem TupP.but {s : Addr} {H H' : Hp} {tp : Addr} {ws : List V} (h : TupP H tp ws) (k : But s H H') (n : tp ≠ s) : TupP H' tp ws :=
  let ⟨o, d, e⟩ := h
  ⟨o, d, k _ _ n e⟩
theorem same_upd {H : Hp} {p : Addr} {o : HO} (h : H p = none) : Same H (upd H p o) := fun b u e => by
  rw [upd_ne (ne_of_none e h)]
  exact e
theorem but_upd {H : Hp} {p : Addr} {o : HO} : But p H (upd H p o) := fun b u n e => by
  rw [upd_ne n]
  exact e
theorem lk_self {f : Str} {v : V} : List.lookup f [(f, v)] = some v := by simp [List.lookup]
theorem lk_no {f g : Str} {v : V} (h : ¬ (f == g) = true) : List.lookup f [(g, v)] = none := by
  have e : (f == g) = false := by simpa using h
  simp [List.lookup, e]
theorem room_eq (b : Bool) : decide (V.str (roomS b) = V.str "red") = b := by
  cases b <;> decide +kernel
theorem eqv_turn : PyData.eqv (.tuple [.str "turn"]) (.tuple [.str "turn"]) = true := by decide +kernel
theorem eqv_meet (b : Bool) (n : Int) : PyData.eqv (.tuple [.str (roomS b), .int n]) (.tuple [.str "turn"]) = false := by
  cases b <;> simp [PyData.eqv, PyData.eqvAll, roomS]
theorem shaped_meet (b : Bool) (n : Int) : SeqAt.shaped (.tuple [.str (roomS b), .int n]) = true := by
  have h1 : PyData.strOk (roomS b) = true := by cases b <;> decide +kernel
  simp [SeqAt.shaped, PyData.canLay0, PyData.canLayAll0, PyData.depth, PyData.depthAll, h1]
end Cc

namespace Cc
open PySem PySem.Spec PyProof.Rows L2
/-! ### the text by places -/
def top (i : Nat) : Stmt := PySem.Challenge.pw_chaircarry_k44_whole_operations_reverted.main.body.getD i (.Pass ⟨0, 0, 0, 0⟩)
abbrev sIsNum : Stmt := top 14
abbrev sIsWhole : Stmt := top 13
abbrev sChkNum : Stmt := top 15
abbrev sChkHouse : Stmt := top 16
abbrev sIsStep : Stmt := top 19
abbrev sInit : Stmt := inClass (top 20) 2
abbrev sSteps : Stmt := inClass (top 20) 4
abbrev sJoined : Stmt := inClass (top 20) 6
/-! ### promises -/
def spIsWhole : Sp := fun vs H Q _ => ∃ v : Int, vs = [.int v] ∧ Q (.bl true) H
def spIsNum : Sp := fun vs H Q _ => ∃ (v a b : Int), vs = [.int v, .int a, .int b] ∧ Q (.bl (decide (a ≤ v ∧ v ≤ b))) H
def spChkNum : Sp := fun vs H Q _ => ∃ (v a b : Int), vs = [.int v, .int a, .int b] ∧ a ≤ v ∧ v ≤ b ∧ Q .non H
def spChkHouse (C : Addr) : Sp := fun vs H Q _ => ∃ (p : Addr) (c : Int) (ss : List Stp), vs = [.ref p, .int c] ∧ PlanAt C H p ss ∧ 0 ≤ c ∧ c ≤ 1000000000000000000 ∧ (∀ s ∈ ss, s.ok c) ∧ ss.length ≤ 60 ∧ ∀ H', Same H H' → Q .non H'
def spIsStep : Sp := fun vs H Q _ => ∃ (v : V) (s : Stp), vs = [v] ∧ StepAt H v s ∧ s.ok 1000000000000000000 ∧ ∀ H', Same H H' → Q (.bl true) H'
def spInitS (C : Addr) : Sp := fun vs H Q _ => ∃ (x tp dx : Addr) (ws : List V) (ss : List Stp), vs = [.ref x, .ref tp] ∧ H x = some (.ins C dx []) ∧ TupP H tp ws ∧ Steps H ws ss ∧ ss.length ≤ 60 ∧ (∀ s ∈ ss, s.ok 1000000000000000000) ∧
  ∀ H', But x H H' → H' x = some (.ins C dx [("step_tuple", .ref tp)]) → Q .non H'
/-- Plan.__init__ by positional values -/
def spInit (C : Addr) : Sp := fun vs H Q _ => ∃ (x dx : Addr) (ws : List V) (ss : List Stp), vs = .ref x :: ws ∧ H x = some (.ins C dx []) ∧ Steps H ws ss ∧ ss.length ≤ 60 ∧ (∀ s ∈ ss, s.ok 1000000000000000000) ∧
  ∀ H' tp, But x H H' → H' x = some (.ins C dx [("step_tuple", .ref tp)]) → TupP H' tp ws → Q .non H'
def spJoinedS (C : Addr) : Sp := fun vs H Q _ => ∃ (x tp : Addr) (ss : List Stp) (o : Addr) (us : List Stp), vs = [.ref x, .ref tp] ∧ PlanAt C H x ss ∧ H tp = some (.tup [.ref o]) ∧ PlanAt C H o us ∧ (ss ++ us).length ≤ 60 ∧ (∀ s ∈ ss ++ us, s.ok 1000000000000000000) ∧
  ∀ p H', Same H H' → PlanAt C H' p (ss ++ us) → Q (.ref p) H'
def spJoined (C : Addr) : Sp := fun vs H Q _ => ∃ (x : Addr) (ss : List Stp) (o : Addr) (us : List Stp), vs = [.ref x, .ref o] ∧ PlanAt C H x ss ∧ PlanAt C H o us ∧ (ss ++ us).length ≤ 60 ∧ (∀ s ∈ ss ++ us, s.ok 1000000000000000000) ∧
  ∀ p H', Same H H' → PlanAt C H' p (ss ++ us) → Q (.ref p) H'
/-- a def that calls none of the program's: it wants no room of its own -/
theorem fn_low {P : Program} {w : World} {K : PySem.W.Frag} {mg : Str → Option Value} {base : Heap} {x qual : Str} {st : Stmt} {f : Addr} {fd : FuncData} {N ps : List Str} {sp : Sp} (F : Fun K x qual st f fd) (S : FnScope N ps (defScope st)) (len : ∀ vs H Q E, sp vs H Q E → vs.length = ps.length)
    (hb : ∀ (cdv : Value) (A : Around) (outer : List Env) (s : Shared) (H : Hp) (vs : List V) (Q : VK) (E : XK), sp vs H Q E → ∃ t, PSs (cxOf CX0 P w K mg base N qual (defScope st) f cdv A outer s H E).nox (defBody st) t ∧ t { nx := fun _ H' => Q .non H', rt := Q } (start N vs) H) : FnOk P w K mg base CX0 0 f fd ps sp := by
  obtain ⟨oc, od, kV, dc, pm, an, cdv, ct, osl, rfl, lk, hcd⟩ := F.ex
  refine ⟨len, fun A outer s H args us vs Q E hr e0 hbd r hsp => ?_⟩
  have hl := len _ _ _ _ hsp
  have KX : K.In s.heap := e0.mod.kin.keeps (fun b o e => (e0.bs b o e).1)
  have lim := e0.mod.nolimit.keeps (fun b o e => (e0.bs b o e).1)
  have hk : ∀ y ∈ ps.zip us, (defScope st).names.lookup y.1 = some .local ∨ ((defScope st).names.lookup y.1 = some .cell ∧ ((cellsFrom (s.heap.objs.size + 1) (defScope st).names []).lookup y.1).isSome = true) := by
    rintro ⟨n, v⟩ hy
    exact (S.par n (List.of_mem_zip hy).1).imp id fun q => ⟨q, PySem.W.cellsFrom_some _ _ _ (.inl q)⟩
  refine codeAny_call_function hr.depth (KX _ _ lk) rfl S.co S.gen rfl (PySem.W.codeRec_of KX hcd) (hbd _ _ _ _ (wpAny_newFunctionEnv_cells S.kind hk fun env he s1 x => ?_))
  subst he
  obtain ⟨t, ht, hq⟩ := hb cdv A outer s H vs Q E hsp
  refine ⟨lim.keeps (x.toInCall.keep), codeAny_func ?_⟩
  have I : Inv (cxOf CX0 P w K mg base N qual (defScope st) f cdv A outer s H E) [] (start N vs) H s1 := inv_start S hr.hd e0 hl r x
  refine wpAny_mono (ht.nox.run [] s1 (start N vs) H _ I hq) (fun fl s' hs => ?_) fun e s' hs => hs
  match fl, hs with
  | .ret u, ⟨v, σ', H', J, rv, q⟩ => exact ⟨v, H', J.os, J.bare, J.base, J.hok, rv, q⟩
  | .next, ⟨σ', H', J, q⟩ => exact ⟨.non, H', J.os, J.bare, J.base, J.hok, rfl, q⟩
  | .brk, ⟨_, _, _, q⟩ => exact q.elim
  | .cont, ⟨_, _, _, q⟩ => exact q.elim
/-! ### what the top has written -/
structure Bt (mg : Str → Option Value) : Prop where
  isinstance : mg "isinstance" = none
  int : mg "int" = none
  bool : mg "bool" = none
  tuple : mg "tuple" = none
  list : mg "list" = none
  len : mg "len" = none
  max : mg "max" = none
  min : mg "min" = none
  abs : mg "abs" = none
  enumerate : mg "enumerate" = none
  range : mg "range" = none
  sum : mg "sum" = none
  sorted : mg "sorted" = none
  divmod : mg "divmod" = none
  zip : mg "zip" = none
  str : mg "str" = none
  dict : mg "dict" = none
  verr : mg "ValueError" = none
  any : mg "any" = none
structure Txt (K : PySem.W.Frag) (mg : Str → Option Value) (C TU pS gS : Addr) (mc : Value) : Prop where
  b : Bt mg
  cl : Cls K C
  nS : NoAttr K C "step_tuple"
  gP : mg "Plan" = some (.ref C)
  rd : ClX.CRead K C mc
  cs : ∃ u, ClX.CVal K C mc "MAX_STEPS" (.int 60) u
  cc : ∃ u, ClX.CVal K C mc "MAX_CHAIRS" (.int 1000000000000000000) u
  con : ∃ u, Con K C "MAX_CHAIRS" (.int 1000000000000000000) u
  gT : mg "TURN" = some (.ref TU)
  tT : ∀ H, SqT K H TU [.str "turn"]
  pr : PropOf K C "steps" pS gS
section
variable {P : Program} {w : World} {K : PySem.W.Frag} {mg : Str → Option Value} {base : Heap} {C TU pS gS : Addr} {mc : Value}
/-! ### checks -/
theorem scIsWhole : FnScope ["value"] ["value"] (defScope sIsWhole) := ⟨rfl, rfl, rfl, by decide +kernel, rfl, by decide +kernel, by decide +kernel⟩
theorem ok_iswhole {f : Addr} {fd : FuncData} (F : Fun K "is_whole" "is_whole" sIsWhole f fd) (B : Bt mg) : FnOk P w K mg base CX0 0 f fd ["value"] spIsWhole := by
  refine fn_low F scIsWhole (fun vs H Q E h => ?_) (fun cdv A outer s H vs Q E h => ?_)
  · obtain ⟨v, rfl, _⟩ := h
    rfl
  · obtain ⟨v, rfl, k⟩ := h
    refine ⟨_, pss_one (ps_ret (pe_and (pe_callB call_isi (by rfl) B.isinstance (by decide +kernel) (pa_cons (pv 0) (pa_cons (pe_bltn (v := .ty "int") (by rfl) B.int (by decide +kernel) rfl) pa_nil)))
      (pe_one (pe_not (pe_callB call_isi (by rfl) B.isinstance (by decide +kernel) (pa_cons (pv 0) (pa_cons (pe_bltn (v := .ty "bool") (by rfl) B.bool (by decide +kernel) rfl) pa_nil))))))), ?_⟩
    refine ⟨_, rfl, _, _, _, _, true, rfl, .ty "int", .base (.int v), kit_ty (by decide +kernel), true, rfl, ?_⟩
    exact iteT ⟨_, rfl, _, _, _, _, false, rfl, .ty "bool", .base (.int v), kit_ty (by decide +kernel), false, rfl, k⟩
theorem scIsNum : FnScope ["value", "least", "most"] ["value", "least", "most"] (defScope sIsNum) := ⟨rfl, rfl, rfl, by decide +kernel, rfl, by decide +kernel, by decide +kernel⟩
theorem ok_isnum {f fW : Addr} {fd : FuncData} (F : Fun K "is_number" "is_number" sIsNum f fd) (W : Dn P w K mg base 0 "is_whole" fW spIsWhole) : FnOk P w K mg base CX0 1 f fd ["value", "least", "most"] spIsNum := by
  refine F.ok scIsNum (fun vs H Q E h => ?_) (fun cdv A outer s H vs Q E hr h => ?_)
  · obtain ⟨v, a, b, rfl, _⟩ := h
    rfl
  · obtain ⟨v, a, b, rfl, k⟩ := h
    refine ⟨_, pss_one (ps_ret (pe_and (pe_callR W.ok hr rfl W.at_ W.kp pass0 (pa_cons (pv 0) pa_nil))
      (pe_one (pe_chain op_le op_le (pv 1) (pv 0) (pv 2))))), ?_⟩
    refine ⟨_, rfl, v, rfl, true, rfl, ?_⟩
    refine iteT ⟨_, rfl, _, rfl, _, _, rfl, rfl, _, rfl, ?_⟩
    by_cases c : a ≤ v
    · rw [decide_eq_true c]
      refine iteT ⟨_, rfl, _, _, rfl, rfl, ?_⟩
      have e : decide (v ≤ b) = decide (a ≤ v ∧ v ≤ b) := by simp [c]
      show Q (V.bl (decide (v ≤ b))) H
      rw [e]
      exact k
    · rw [if_neg (by simp [c])]
      have e : (false : Bool) = decide (a ≤ v ∧ v ≤ b) := by simp [c]
      show Q (V.bl false) H
      rw [e]
      exact k
theorem scChkNum : FnScope ["value", "least", "most"] ["value", "least", "most"] (defScope sChkNum) := ⟨rfl, rfl, rfl, by decide +kernel, rfl, by decide +kernel, by decide +kernel⟩
theorem ok_chknum {f fN : Addr} {fd : FuncData} (F : Fun K "check_number" "check_number" sChkNum f fd) (N : Dn P w K mg base 1 "is_number" fN spIsNum) : FnOk P w K mg base CX0 2 f fd ["value", "least", "most"] spChkNum := by
  refine F.ok scChkNum (fun vs H Q E h => ?_) (fun cdv A outer s H vs Q E hr h => ?_)
  · obtain ⟨v, a, b, rfl, _⟩ := h
    rfl
  · obtain ⟨v, a, b, rfl, h1, h2, k⟩ := h
    refine ⟨_, pss_one (ps_if (pt_not (pt_val (pe_callR N.ok hr rfl N.at_ N.kp pass0 (pa_cons (pv 0) (pa_cons (pv 1) (pa_cons (pv 2) pa_nil)))))) (pss_one ps_never) pss_nil), ?_⟩
    refine ⟨_, rfl, _, rfl, _, rfl, v, a, b, rfl, _, rfl, ?_⟩
    rw [decide_eq_true (show a ≤ v ∧ v ≤ b from ⟨h1, h2⟩)]
    exact iteF k
/-! ### the plan's own -/
theorem scSteps : FnScope ["self"] ["self"] (defScope sSteps) := ⟨rfl, rfl, rfl, by decide +kernel, rfl, by decide +kernel, by decide +kernel⟩
theorem ok_steps {f : Addr} {fd : FuncData} (F : Fun K "steps" "Plan.steps" sSteps f fd) (T : Txt K mg C TU pS gS mc) : FnOk P w K mg base CX0 1 f fd ["self"] (getSp C "step_tuple") := by
  refine F.ok scSteps (fun vs H Q E h => ?_) (fun cdv A outer s H vs Q E hr h => ?_)
  · obtain ⟨a, dx, fs, v, rfl, _⟩ := h
    rfl
  · obtain ⟨a, dx, fs, v, rfl, h1, h2, k⟩ := h
    exact ⟨_, pss_one (ps_ret (pe_fld (pv 0) rfl)), _, rfl, a, C, dx, fs, v, rfl, h1, T.cl, T.nS, h2, k⟩
/-- e.steps, e a plan -/
structure Gs (P : Program) (w : World) (K : PySem.W.Frag) (mg : Str → Option Value) (base : Heap) (C gS : Addr) (fd : FuncData) : Prop where
  ok : FnOk P w K mg base CX0 1 gS fd ["self"] (getSp C "step_tuple")
  b : Binds K fd ["self"] []
theorem scChkHouse : FnScope ["plan", "chairs", "index", "step"] ["plan", "chairs"] (defScope sChkHouse) := ⟨rfl, rfl, rfl, by decide +kernel, rfl, by decide +kernel, by decide +kernel⟩
theorem ok_chkhouse {f fN : Addr} {fd fdS : FuncData} (F : Fun K "check_house" "check_house" sChkHouse f fd) (T : Txt K mg C TU pS gS mc) (G : Gs P w K mg base C gS fdS) (N : Dn P w K mg base 2 "check_number" fN spChkNum) :
    FnOk P w K mg base CX0 3 f fd ["plan", "chairs"] (spChkHouse C) := by
  refine F.ok scChkHouse (fun vs H Q E h => ?_) (fun cdv A outer s H vs Q E hr h => ?_)
  · obtain ⟨p, c, ss, rfl, _⟩ := h
    rfl
  · obtain ⟨p, c, ss, rfl, hp, h0, h1, hs, hl, k⟩ := h
    obtain ⟨dx, tp, ws, e1, e2, e3⟩ := id hp
    obtain ⟨u, hu⟩ := T.con
    refine ⟨_, pss_cons (ps_expr (pe_callR N.ok hr rfl N.at_ N.kp pass0 (pa_cons (pv 1) (pa_cons pe_int (pa_cons (pe_con (pv 0) rfl) pa_nil)))))
      (pss_one (ps_for PassesOwn.never rfl (pi_enumT (by rfl) T.b.enumerate (pa_cons (pe_prop (pv 0) T.cl T.pr G.ok hr G.b .nil pass0 rfl) pa_nil))
        (pg_tup rfl (pgs_cons (pg_name (i := 2) scChkHouse.nd rfl (.inl rfl)) (pgs_cons (pg_name (i := 3) scChkHouse.nd rfl (.inl rfl)) pgs_nil)))
        (pss_one (ps_if (PW.pt (pw_and (pt_cmpR op_eq (pe_callB call_len (by rfl) T.b.len PySem.boot_len (pa_cons (pv 3) pa_nil)) pe_int (nomark _))
          (pw_and1 (pt_cmpR op_gt (pe_ix ix_tup (pv 3) pe_int (fun _ _ => rfl)) (pv 1) (nomark _))))) (pss_one ps_never) pss_nil)))), ?_⟩
    refine ⟨_, rfl, _, rfl, p, C, dx, _, _, u, rfl, e1, T.cl, hu, lk_no (by decide +kernel), c, 0, _, rfl, h0, h1, ?_⟩
    refine ⟨_, rfl, p, dx, _, rfl, e1, p, dx, _, _, rfl, e1, lk_self, tp, ws, rfl, e2.sq, ?_⟩
    refine for_it (walk_enumT (xs := ws)) (fun i σ H' => ∃ a b, σ = [some (.ref p), some (.int c), a, b] ∧ Same H H') ⟨none, none, rfl, Same.refl H⟩ (fun i σ H' _ ⟨_, _, _, s1⟩ => (e2.same s1).sq) ?_ ?_
    · rintro i x σ H1 H2 hi ⟨a, b, rfl, s1⟩ ⟨q, y1, y2, rfl, n1, rfl, z1, z2⟩
      obtain ⟨st, hst, t, rfl, ht⟩ := e3.get z2
      have okst := hs st (List.mem_of_getElem? hst)
      have s2 : Same H (upd H1 q (.tup [y1, .ref t])) := s1.trans (same_upd n1)
      have ht2 := s2 _ _ ht
      refine ⟨q, _, rfl, SqT.of upd_same, rfl, _, _, rfl, _, _, rfl, rfl, ?_⟩
      refine ⟨_, rfl, _, _, rfl, .inr ⟨_, SqT.of ht2, rfl⟩, rfl, ?_⟩
      cases st with
      | turn =>
        refine ⟨_, rfl, ?_⟩
        refine iteF ?_
        exact iteF ⟨_, _, rfl, s2⟩
      | meet bb n =>
        refine ⟨_, rfl, iteT ⟨_, rfl, t, _, _, _, rfl, rfl, SqT.of ht2, at_of (j := 1) rfl rfl, _, rfl, _, _, rfl, rfl, _, rfl, ?_⟩⟩
        rw [decide_eq_false (show ¬ c < n from Int.not_lt.mpr okst.2)]
        exact iteF ⟨_, _, rfl, s2⟩
    · rintro σ H' ⟨a, b, rfl, s1⟩
      exact k H' s1
/-! ### is_step, Plan( *steps), joined -/
theorem scIsStep : FnScope ["step"] ["step"] (defScope sIsStep) := ⟨rfl, rfl, rfl, by decide +kernel, rfl, by decide +kernel, by decide +kernel⟩
theorem ok_isstep {f fN : Addr} {fd : FuncData} (F : Fun K "is_step" "is_step" sIsStep f fd) (T : Txt K mg C TU pS gS mc) (N : Dn P w K mg base 1 "is_number" fN spIsNum) : FnOk P w K mg base CX0 2 f fd ["step"] spIsStep := by
  refine F.ok scIsStep (fun vs H Q E h => ?_) (fun cdv A outer s H vs Q E hr h => ?_)
  · obtain ⟨v, s, rfl, _⟩ := h
    rfl
  · obtain ⟨v, st, rfl, ⟨t, rfl, ht⟩, ok, k⟩ := h
    obtain ⟨u, hu⟩ := T.cc
    refine ⟨_, pss_cons (ps_if (pt_not (pt_val (pe_callB call_isi (by rfl) T.b.isinstance (by decide +kernel) (pa_cons (pv 0) (pa_cons (pe_bltn (v := .ty "tuple") (by rfl) T.b.tuple (by decide +kernel) rfl) pa_nil))))) (pss_one (ps_ret pe_bl)) pss_nil)
      (pss_cons (ps_if (pt_cmpR op_eq (pe_callB call_len (by rfl) T.b.len PySem.boot_len (pa_cons (pv 0) pa_nil)) pe_int (nomark _))
        (pss_one (ps_ret (pe_and (pe_cmpR op_in_seq (pe_ix ix_tup (pv 0) pe_int (fun _ _ => rfl)) (pe_tup (pa_cons pe_str (pa_cons pe_str pa_nil))) (by rfl))
          (pe_one (pe_callR N.ok hr rfl N.at_ N.kp pass0 (pa_cons (pe_ix ix_tup (pv 0) pe_int (fun _ _ => rfl)) (pa_cons pe_int (pa_cons (ClX.pe_cval (pe_glob (v := .ref C) rfl T.gP rfl)) pa_nil)))))))) pss_nil)
      (pss_one (ps_ret (pe_cmpR (op_eqD hr.units) (pv 0) (pe_glob (v := .ref TU) rfl T.gT rfl) (nomark _))))), ?_⟩
    refine ⟨_, rfl, _, _, _, _, true, rfl, .ty "tuple", .base (.tup ht), kit_ty (by decide +kernel), true, rfl, ?_⟩
    refine iteF ?_
    refine ⟨_, rfl, _, _, rfl, .inr ⟨_, SqT.of ht, rfl⟩, rfl, ?_⟩
    cases st with
    | turn =>
      refine ⟨_, rfl, iteF ?_⟩
      refine ⟨_, rfl, .tuple [.str "turn"], .tuple [.str "turn"], .tup (SqT.of ht) (.cons (.str _) .nil), .tup (T.tT _) (.cons (.str _) .nil), by decide +kernel, by decide +kernel, ?_⟩
      have e : PyData.eqv (.tuple [.str "turn"]) (.tuple [.str "turn"]) = true := by decide +kernel
      rw [e]
      exact k H (Same.refl H)
    | meet bb n =>
      refine ⟨_, rfl, iteT ?_⟩
      refine ⟨_, rfl, t, _, _, _, rfl, rfl, SqT.of ht, at_of (j := 0) rfl rfl, by show 2 ≤ sizeLine; decide, fun p hp => ?_⟩
      have s1 : Same H (upd H p (.tup [.str "red", .str "blue"])) := same_upd hp
      refine ⟨p, _, rfl, .inr (SqT.of upd_same), rfl, by decide, _, rfl, ?_⟩
      have e : inV (.str (roomS bb)) [.str "red", .str "blue"] = true := by cases bb <;> decide +kernel
      rw [e]
      refine iteT ⟨_, rfl, t, _, _, _, rfl, rfl, SqT.of (s1 _ _ ht), at_of (j := 1) rfl rfl, C, mc, _, u, rfl, T.rd, hu, n, 0, _, rfl, ?_⟩
      rw [decide_eq_true (show (0 : Int) ≤ n ∧ n ≤ 1000000000000000000 from ok)]
      exact k _ s1
theorem scInit : FnScope ["self", "steps", "index", "step"] ["self", "steps"] (defScope sInit) := ⟨rfl, rfl, rfl, by decide +kernel, rfl, by decide +kernel, by decide +kernel⟩
theorem ok_init {f fS : Addr} {fd : FuncData} (F : Fun K "__init__" "Plan.__init__" sInit f fd) (T : Txt K mg C TU pS gS mc) (N : Dn P w K mg base 2 "is_step" fS spIsStep) : FnR P w K mg base CX0 3 f (spInit C) := by
  obtain ⟨z1, z2, z3, z4, z5, z6, cdv, z7, z8, rfl, lk, hcd⟩ := F.ex
  refine (fn_starZ (ps := ["self"]) (pv := "steps") (sp := spInitS C) (k := 2) lk hcd scInit StX.cxUp_none (StX.bind_star1 (B := fun us => bindArgs _ ⟨us, []⟩) (fun _ => rfl) (fun _ _ _ => rfl)) fun A outer s H vs Q E hr h => ?_).imp fun vs H Q E h => ?_
  · obtain ⟨x, tp, dx, ws, ss, rfl, e1, e2, e3, hl, hs, k⟩ := h
    obtain ⟨u, hu⟩ := T.cs
    suffices h : ∃ t, PSs (cxOf CX0 P w K mg base ["self", "steps", "index", "step"] "Plan.__init__" (defScope sInit) f cdv A outer s H E).nox (defBody sInit) t ∧ t { nx := fun _ H' => Q .non H', rt := Q } (start ["self", "steps", "index", "step"] [.ref x, .ref tp]) H by
      obtain ⟨t, h1, h2⟩ := h
      exact ⟨t, h1.nox, h2⟩
    refine ⟨_, pss_cons (ps_for PassesOwn.never rfl (pi_enumT (by rfl) T.b.enumerate (pa_cons (pv 1) pa_nil))
        (pg_tup rfl (pgs_cons (pg_name (i := 2) scInit.nd rfl (.inl rfl)) (pgs_cons (pg_name (i := 3) scInit.nd rfl (.inl rfl)) pgs_nil)))
        (pss_one (ps_if (PW.pt (pw_or (pt_cmpR op_eq (pv 2) (ClX.pe_cval (pe_glob (v := .ref C) rfl T.gP rfl)) (nomark _))
          (pw_or1 (pt_not (pt_val (pe_callR N.ok hr rfl N.at_ N.kp pass0 (pa_cons (pv 3) pa_nil))))))) (pss_one ps_never) pss_nil)))
      (pss_one (ps_fld (pv 0) (pv 1) rfl)), ?_⟩
    refine ⟨_, rfl, tp, ws, rfl, e2.sq, ?_⟩
    refine for_it (walk_enumT (xs := ws)) (fun i σ H' => ∃ a b, σ = [some (.ref x), some (.ref tp), a, b] ∧ Same H H') ⟨none, none, rfl, Same.refl H⟩ (fun i σ H' _ ⟨_, _, _, s1⟩ => (e2.same s1).sq) ?_ ?_
    · rintro i v σ H1 H2 hi ⟨a, b, rfl, s1⟩ ⟨q, y1, y2, rfl, n1, rfl, z1, z2⟩
      obtain ⟨st, hst, t, rfl, ht⟩ := e3.get z2
      have okst := hs st (List.mem_of_getElem? hst)
      have s2 : Same H (upd H1 q (.tup [y1, .ref t])) := s1.trans (same_upd n1)
      have ht2 := s2 _ _ ht
      cases z1
      refine ⟨q, _, rfl, SqT.of upd_same, rfl, _, _, rfl, _, _, rfl, rfl, ?_⟩
      have hi' : i < 60 := by rw [e3.length] at hi; omega
      refine ⟨_, rfl, C, mc, _, u, rfl, T.rd, hu, rfl, _, rfl, ?_⟩
      rw [decide_eq_false (show ¬ V.int (i : Int) = V.int 60 from fun z => by injection z with z; omega)]
      refine iteF ?_
      refine ⟨_, rfl, _, st, rfl, ⟨t, rfl, ht2⟩, okst, fun H3 s3 => ⟨_, rfl, ?_⟩⟩
      exact iteF ⟨_, _, rfl, s2.trans s3⟩
    · rintro σ H' ⟨a, b, rfl, s1⟩
      refine ⟨_, rfl, _, rfl, x, C, dx, _, rfl, s1 _ _ e1, T.cl, T.nS, (by show 0 < 1000; decide), ?_⟩
      exact k _ (fun b o n e => by rw [upd_ne n]; exact s1 _ _ e) upd_same
  · obtain ⟨x, dx, ws, ss, rfl, e1, e3, hl, hs, k⟩ := h
    refine ⟨[.ref x], ws, rfl, rfl, ?_, fun p ob hp hd => ?_⟩
    · rw [e3.length]
      exact Nat.le_trans hl (by decide)
    · have s1 : Same H (upd H p (.frz ob (.tup ws))) := same_upd hp
      refine ⟨x, p, dx, ws, ss, rfl, s1 _ _ e1, ⟨ob, hd, upd_same⟩, e3.same s1, hl, hs, fun H' b1 b2 => ?_⟩
      exact k H' p (fun b o n e => b1 b o n (s1 _ _ e)) b2 ⟨ob, hd, b1 _ _ (ne_of_none e1 hp).symm upd_same⟩
theorem scJoined : FnScope ["self", "others", "steps", "other"] ["self", "others"] (defScope sJoined) := ⟨rfl, rfl, rfl, by decide +kernel, rfl, by decide +kernel, by decide +kernel⟩
theorem ok_joined {f fI : Addr} {fd fdS : FuncData} (F : Fun K "joined" "Plan.joined" sJoined f fd) (T : Txt K mg C TU pS gS mc) (G : Gs P w K mg base C gS fdS) (M : Mk K C fI) (GI : FnR P w K mg base CX0 3 fI (spInit C)) : FnR P w K mg base CX0 5 f (spJoined C) := by
  obtain ⟨z1, z2, z3, z4, z5, z6, cdv, z7, z8, rfl, lk, hcd⟩ := F.ex
  refine (StX.fn_star (ps := ["self"]) (pv := "others") (sp := spJoinedS C) (k := 4) lk hcd scJoined StX.cxUp_none (StX.bind_star1 (B := fun us => bindArgs _ ⟨us, []⟩) (fun _ => rfl) (fun _ _ _ => rfl)) fun A outer s H vs Q E hr h => ?_).imp fun vs H Q E h => ?_
  · obtain ⟨x, tp, ss, o, us, rfl, p1, e2, p2, hl, hs, k⟩ := h
    obtain ⟨dx, t1, ws, e1, e3, e4⟩ := id p1
    obtain ⟨dy, t2, zs, f1, f3, f4⟩ := id p2
    suffices h : ∃ t, PSs (cxOf CX0 P w K mg base ["self", "others", "steps", "other"] "Plan.joined" (defScope sJoined) f cdv A outer s H E).nox (defBody sJoined) t ∧ t { nx := fun _ H' => Q .non H', rt := Q } (start ["self", "others", "steps", "other"] [.ref x, .ref tp]) H by
      obtain ⟨t, h1, h2⟩ := h
      exact ⟨t, h1.nox, h2⟩
    have hr1 : Room 2 _ := hr.mono (by decide)
    refine ⟨_, pss_cons (ps_set (i := 2) scJoined.nd rfl (.inl rfl) (pe_callTy call_list_of (by rfl) T.b.list (by decide +kernel) (pa_cons (pe_prop (pv 0) T.cl T.pr G.ok hr1 G.b .nil pass0 rfl) pa_nil)))
      (pss_cons (ps_for PassesOwn.never rfl (pi_tup (pv 1)) (pg_name (i := 3) scJoined.nd rfl (.inl rfl))
        (pss_one (ps_expr (pe_bm PySem.F.plainAttrs_list PySem.F.slot_list_extend PySem.F.type_list_extend mt_extendT (pv 2) (pa_cons (pe_prop (pv 3) T.cl T.pr G.ok hr1 G.b .nil pass0 rfl) pa_nil)))))
      (pss_one (ps_ret (pe_makeS M GI hr rfl T.gP pass0 (pv 2))))), ?_⟩
    refine ⟨_, rfl, x, dx, _, rfl, e1, x, dx, _, _, rfl, e1, lk_self, t1, ws, rfl, .inr e3.sq, fun l hl0 => ?_⟩
    have s1 : Same H (upd H l (.lst ws)) := same_upd hl0
    have hlen : ws.length + zs.length ≤ 60 := by
      rw [e4.length, f4.length]
      rw [List.length_append] at hl
      exact hl
    refine ⟨_, rfl, tp, rfl, ⟨_, SqT.of (s1 _ _ e2)⟩, for_tup (K := K) (a := tp) (xs := [V.ref o]) (fun i σ H' => ∃ v, σ = [some (.ref x), some (.ref tp), some (.ref l), v] ∧ But l H H' ∧ H' l = some (.lst (if i = 0 then ws else ws ++ zs)))
      ⟨none, rfl, But.of s1, upd_same⟩ (fun i σ H' _ ⟨_, _, b1, _⟩ => SqT.of (b1 _ _ (ne_of_none e2 hl0) e2)) ?_ ?_⟩
    · rintro i y σ H' hi ⟨v, rfl, b1, b2⟩
      match i, hi with
      | 0, hi =>
        cases hi
        have g1 := b1 _ _ (ne_of_none f1 hl0) f1
        have g3 := f3.but b1 (f3.ne hl0)
        rw [if_pos rfl] at b2
        refine ⟨_, rfl, .inl ⟨rfl, _, SqL.of b2⟩, _, rfl, o, dy, _, rfl, g1, o, dy, _, _, rfl, g1, lk_self, l, t2, ws, zs, rfl, rfl, b2, g3.sq, Nat.le_trans hlen (by decide), ?_⟩
        refine ⟨_, rfl, fun b o n e => ?_, ?_⟩
        · rw [upd_ne n]
          exact b1 b o n e
        · rw [if_neg (by decide)]
          exact upd_same
      | i + 1, hi => simp at hi
    · rintro σ H' ⟨v, rfl, b1, b2⟩
      rw [if_neg (by show ¬ (1 = 0); decide)] at b2
      refine ⟨_, rfl, l, _, rfl, .inr (SqL.of b2), fun q dq hq hdq hne => ?_⟩
      have s2 : Same H' (upd (upd H' dq (.own q)) q (.ins C dq [])) := fun b o e => by
        rw [upd_ne (ne_of_none e hq), upd_ne (ne_of_none e hdq)]
        exact e
      have stp : Steps H' (ws ++ zs) (ss ++ us) := by
        refine (e4.append f4).mono fun t xs e => b1 _ _ (ne_of_none e hl0) e
      refine ⟨q, dq, _, ss ++ us, rfl, upd_same, stp.same s2, hl, hs, fun H2 tq b3 b4 b5 => ⟨rfl, ?_⟩⟩
      have s3 : Same H H2 := fun b o e => b3 _ _ (ne_of_none (b1 _ _ (ne_of_none e hl0) e) hq) (s2 _ _ (b1 _ _ (ne_of_none e hl0) e))
      refine k q H2 s3 ⟨dq, tq, _, b4, b5, ?_⟩
      exact stp.mono fun t xs e => b3 _ _ (ne_of_none e hq) (s2 _ _ e)
  · obtain ⟨x, ss, o, us, rfl, p1, p2, hl, hs, k⟩ := h
    refine ⟨[.ref x], [.ref o], rfl, rfl, by show 1 ≤ sizeLine; decide, fun p hp => ?_⟩
    have s1 : Same H (upd H p (.tup [.ref o])) := same_upd hp
    exact ⟨x, p, ss, o, us, rfl, p1.same s1, upd_same, p2.same s1, hl, hs, fun p' H' s2 => k p' H' (s1.trans s2)⟩
end
end Cc

/-! Nobody carries less: the least price of each place behind the steps. -/
namespace Cc
open PySem PySem.Spec PyProof.Rows L2
def ab (i : Int) : Int := if i < 0 then -i else i
/-- the prices of the places 0, 1, .. when T are carried and pos is the lazy place -/
def priceF (n : Nat) (T pos : Int) : List Int := (List.range n).map fun (g : Nat) => T + ab ((g : Int) - pos)
/-- the place (chairs in the room that was red at first), by the side -/
def placeF (c side r : Int) : Int := if side = 1 then r else c - r
/-- the places that a meeting allows -/
def goodF (c : Int) (first : Bool) (need : Int) (n : Nat) : List Nat := (List.range n).filter fun (g : Nat) => decide (need ≤ if first = true then (0 + (g : Int)) else c - (0 + (g : Int)))
theorem mem_goodF {c : Int} {first : Bool} {need : Int} {n g : Nat} : g ∈ goodF c first need n ↔ g < n ∧ need ≤ (if first = true then (g : Int) else c - g) := by
  unfold goodF
  rw [List.mem_filter, List.mem_range]
  simp
/-- a meeting moves the lazy place to the nearest that it allows -/
theorem place_meet {c side r n : Int} {b : Bool} (hs : side = 1 ∨ side = -1) (h0 : 0 ≤ r) (h1 : r ≤ c) (n0 : 0 ≤ n) (n1 : n ≤ c) (first : Bool) (hf : first = (b == decide (side = 1))) :
    placeF c side (stepF c (.meet b n) r).1 = (if first = true then (if placeF c side r < n then n else placeF c side r) else (if c - n < placeF c side r then c - n else placeF c side r)) ∧
    (stepF c (.meet b n) r).2 = ab (placeF c side (stepF c (.meet b n) r).1 - placeF c side r) := by
  subst hf
  rcases hs with rfl | rfl <;> cases b <;> simp [placeF, stepF, mx, ab] <;> omega
theorem place_in {c side r : Int} (h0 : 0 ≤ r) (h1 : r ≤ c) : 0 ≤ placeF c side r ∧ placeF c side r ≤ c := by
  unfold placeF
  split <;> omega
/-- the new price of a place -/
theorem price_meet {c side r n T : Int} {b : Bool} (hs : side = 1 ∨ side = -1) (h0 : 0 ≤ r) (h1 : r ≤ c) (n0 : 0 ≤ n) (n1 : n ≤ c) (first : Bool) (hf : first = (b == decide (side = 1))) (g : Int) :
    (∃ p : Nat, p ∈ goodF c first n (c + 1).toNat ∧ (T + ab ((p : Int) - placeF c side r)) + ab ((p : Int) - g) = (T + (stepF c (.meet b n) r).2) + ab (g - placeF c side (stepF c (.meet b n) r).1)) ∧
    ∀ p : Nat, p ∈ goodF c first n (c + 1).toNat → (T + (stepF c (.meet b n) r).2) + ab (g - placeF c side (stepF c (.meet b n) r).1) ≤ (T + ab ((p : Int) - placeF c side r)) + ab ((p : Int) - g) := by
  obtain ⟨e1, e2⟩ := place_meet hs h0 h1 n0 n1 first hf
  obtain ⟨p0, p1⟩ := place_in (side := side) h0 h1
  rw [e2]
  generalize placeF c side r = pos at *
  generalize placeF c side (stepF c (.meet b n) r).1 = pos' at *
  have hp0 : 0 ≤ pos' := by
    subst e1
    split <;> split <;> omega
  refine ⟨⟨pos'.toNat, mem_goodF.mpr ⟨?_, ?_⟩, ?_⟩, fun p hp => ?_⟩
  · subst e1
    split <;> split <;> omega
  · have q : ((pos'.toNat : Nat) : Int) = pos' := by omega
    rw [q]
    subst e1
    cases first <;> simp <;> split <;> omega
  · have q : ((pos'.toNat : Nat) : Int) = pos' := by omega
    rw [q]
    unfold ab
    split <;> split <;> split <;> omega
  · obtain ⟨hp1, hp2⟩ := mem_goodF.mp hp
    unfold ab
    cases first
    · simp at e1 hp2
      subst e1
      split <;> split <;> split <;> split <;> omega
    · simp at e1 hp2
      subst e1
      split <;> split <;> split <;> split <;> omega
theorem least_is {ns : List Int} {m v : Int} (h1 : m ∈ ns) (h2 : ∀ x ∈ ns, m ≤ x) (h3 : v ∈ ns) (h4 : ∀ x ∈ ns, v ≤ x) : m = v := Int.le_antisymm (h2 v h3) (h4 m h1)
theorem priceF_get {n : Nat} {T pos : Int} {p : Nat} (h : p < n) : (priceF n T pos)[p]? = some (T + ab ((p : Int) - pos)) := by
  unfold priceF
  rw [List.getElem?_map, List.getElem?_range h]
  rfl
end Cc
namespace Cc
open PySem PySem.Spec PyProof.Rows L2
theorem ifT {c : Bool} {A B : Prop} (hc : c = true) (h : A) : if c = true then A else B := by
  rw [if_pos hc]
  exact h
theorem ifF {c : Bool} {A B : Prop} (hc : c = false) (h : B) : if c = true then A else B := by
  rw [hc, if_neg Bool.false_ne_true]
  exact h
theorem same_new {H H' : Hp} {D : Addr} {o : HO} (h : H D = none) (s : Same H H') : Same H (upd H' D o) := fun b u e => by
  rw [upd_ne (ne_of_none e h)]
  exact s b u e
theorem upd_lst {H : Hp} {D : Addr} {xs ys : List V} (h : xs = ys) : upd H D (.lst xs) D = some (.lst ys) := by
  rw [h]
  exact upd_same
theorem priceF_succ (n : Nat) (T pos : Int) : (priceF (n + 1) T pos).map V.int = (priceF n T pos).map V.int ++ [V.int (T + ab ((n : Int) - pos))] := by
  unfold priceF
  rw [List.range_succ, List.map_append, List.map_append]
  rfl
theorem priceF_len (n : Nat) (T pos : Int) : (priceF n T pos).length = n := by
  simp [priceF]
def goodV (c : Int) (first : Bool) (need : Int) (n : Nat) : List V := (goodF c first need n).map fun (p : Nat) => V.int (0 + (p : Int))
theorem goodV_succ (c : Int) (first : Bool) (need : Int) (n : Nat) (h : (decide (need ≤ if first = true then (0 + (n : Int)) else c - (0 + (n : Int)))) = true) : goodV c first need (n + 1) = goodV c first need n ++ [V.int (0 + (n : Int))] := by
  unfold goodV goodF
  rw [List.range_succ, List.filter_append, List.map_append]
  simp only [List.filter_cons, h, if_true, List.filter_nil, List.map_cons, List.map_nil]
theorem goodV_skip (c : Int) (first : Bool) (need : Int) (n : Nat) (h : (decide (need ≤ if first = true then (0 + (n : Int)) else c - (0 + (n : Int)))) = false) : goodV c first need (n + 1) = goodV c first need n := by
  unfold goodV goodF
  rw [List.range_succ, List.filter_append, List.map_append]
  simp only [List.filter_cons, h, Bool.false_eq_true, if_false, List.filter_nil, List.map_nil, List.append_nil]
theorem goodV_len (c : Int) (first : Bool) (need : Int) (n : Nat) : (goodV c first need n).length ≤ n := by
  unfold goodV goodF
  rw [List.length_map]
  exact Nat.le_trans (List.length_filter_le _ _) (by rw [List.length_range]; exact Nat.le_refl n)
theorem room_turn (b : Bool) : decide (V.str (roomS b) = V.str "turn") = false := by
  cases b <;> decide +kernel
theorem first_eq (b : Bool) (side : Int) : decide (V.bl (decide (V.str (roomS b) = V.str "red")) = V.bl (decide (V.int side = V.int 1))) = (b == decide (side = 1)) := by
  rw [room_eq]
  have e : decide (V.int side = V.int 1) = decide (side = 1) := by
    by_cases h : side = 1
    · subst h; simp
    · rw [decide_eq_false h, decide_eq_false fun z => h (by injection z)]
  rw [e]
  cases b <;> cases decide (side = 1) <;> decide
theorem small_line {i n : Nat} (h : i < n) (hn : n ≤ 2000) : i < sizeLine := by
  rw [sizeLine_eq]
  omega
end Cc

/-! Drawing in the laws of the second part: the script mixed, the next number. -/
namespace Cc
open PySem PySem.Spec PyProof.Rows L2
/-- all but two lists are kept -/
def But2 (h l : Addr) (H H1 : Hp) : Prop := ∀ b o, b ≠ h → b ≠ l → H b = some o → H1 b = some o
theorem But2.refl (h l : Addr) (H : Hp) : But2 h l H H := fun _ _ _ _ e => e
theorem But2.trans {h l : Addr} {H H1 H2 : Hp} (a : But2 h l H H1) (b : But2 h l H1 H2) : But2 h l H H2 := fun c o n1 n2 e => b c o n1 n2 (a c o n1 n2 e)
theorem But2.of {h l : Addr} {H H1 : Hp} (s : Same H H1) : But2 h l H H1 := fun b o _ _ e => s b o e
/-- the law's state -/
def NextAt (H : Hp) (h l : Addr) : Prop := ∃ (m k : Int) (ns : List Int), H h = some (.lst [.int m, .ref l, .int k]) ∧ H l = some (.lst (ns.map V.int)) ∧ ns.length ≤ 63 ∧ h ≠ l
theorem NextAt.ne {H : Hp} {h l : Addr} (n : NextAt H h l) : h ≠ l := let ⟨_, _, _, _, _, _, e⟩ := n; e
theorem NextAt.h1 {H : Hp} {h l : Addr} (n : NextAt H h l) : ∃ xs, H h = some (.lst xs) := let ⟨_, _, _, e, _⟩ := n; ⟨_, e⟩
theorem NextAt.l1 {H : Hp} {h l : Addr} (n : NextAt H h l) : ∃ xs, H l = some (.lst xs) := let ⟨_, _, _, _, e, _⟩ := n; ⟨_, e⟩
theorem NextAt.same {H H1 : Hp} {h l : Addr} (n : NextAt H h l) (s : Same H H1) : NextAt H1 h l :=
  let ⟨m, k, ns, a, b, c, d⟩ := n
  ⟨m, k, ns, s _ _ a, s _ _ b, c, d⟩
theorem But2.none {h l : Addr} {H H1 : Hp} (b : But2 h l H H1) (n : NextAt H h l) {p : Addr} (hp : H1 p = Option.none) (n1 : NextAt H1 h l) : H p = Option.none := by
  cases e : H p with
  | none => rfl
  | some o =>
    have a1 : p ≠ h := fun z => by
      subst z
      obtain ⟨xs, w⟩ := n1.h1
      rw [hp] at w
      cases w
    have a2 : p ≠ l := fun z => by
      subst z
      obtain ⟨xs, w⟩ := n1.l1
      rw [hp] at w
      cases w
    rw [b _ _ a1 a2 e] at hp
    cases hp
theorem But2.tup {h l : Addr} {H H1 : Hp} (b : But2 h l H H1) (n : NextAt H h l) : ∀ t us, H t = some (.tup us) → H1 t = some (.tup us) := fun t us e => by
  obtain ⟨xs, e1⟩ := n.h1
  obtain ⟨ys, e2⟩ := n.l1
  exact b _ _ (ne_of e e1 fun z => nomatch z) (ne_of e e2 fun z => nomatch z) e
theorem But2.ins {h l : Addr} {H H1 : Hp} (b : But2 h l H H1) (n : NextAt H h l) {p C dx : Addr} {fs : List (Str × V)} (e : H p = some (.ins C dx fs)) : H1 p = some (.ins C dx fs) := by
  obtain ⟨xs, e1⟩ := n.h1
  obtain ⟨ys, e2⟩ := n.l1
  exact b _ _ (ne_of e e1 fun z => nomatch z) (ne_of e e2 fun z => nomatch z) e
theorem sn_none {H H1 : Hp} {p : Addr} (s : Same H H1) (h : H1 p = Option.none) : H p = Option.none := by
  cases e : H p with
  | none => rfl
  | some o =>
    rw [s _ _ e] at h
    cases h
def spMix (K : PySem.W.Frag) : Sp := fun vs H Q _ => ∃ (a : Addr) (ns : List Int) (sd : Int), vs = [.ref a, .int sd] ∧ SqF K H a (ns.map V.int) ∧ ns.length ≤ 63 ∧ ∀ h l H', H h = none → H l = none → Same H H' → NextAt H' h l → Q (.ref h) H'
def spNext : Sp := fun vs H Q _ => ∃ (h l : Addr) (n : Int), vs = [.ref h, .int n] ∧ NextAt H h l ∧ 0 < n ∧ n ≤ 9223372036854775807 ∧ ∀ r H', 0 ≤ r → r < n → NextAt H' h l → But2 h l H H' → Q (.int r) H'
section
variable {P : Program} {w : World} {K : PySem.W.Frag} {mg : Str → Option Value} {base : Heap} {C TU pS gS : Addr} {mc : Value}
abbrev s__law_mix : Stmt := top 36
abbrev n__law_mix : List Str := ["_law_script", "_law_seed", "_law_mixed", "_law_cell"]
theorem sc__law_mix : FnScope n__law_mix ["_law_script", "_law_seed"] (defScope s__law_mix) := ⟨rfl, rfl, rfl, by decide +kernel, rfl, by decide +kernel, by decide +kernel⟩
theorem ok__law_mix {f : Addr} {fd : FuncData} (F : Fun K "_law_mix" "_law_mix" s__law_mix f fd) (B : Bt mg) : FnOk P w K mg base CX0 1 f fd ["_law_script", "_law_seed"] (spMix K) := by
  refine F.ok sc__law_mix (fun vs H Q E h => ?_) (fun cdv A outer s H vs Q E hr h => ?_)
  · obtain ⟨a, ns, sd, rfl, _⟩ := h
    rfl
  · obtain ⟨a, ns, sd, rfl, hF, hlen, k⟩ := h
    refine ⟨_, pss_cons (ps_set (i := 2) sc__law_mix.nd rfl (.inl rfl) (pv 1))
      (pss_cons (ps_for PassesOwn.never rfl (pi_list (pv 0)) (pg_name (i := 3) sc__law_mix.nd rfl (.inl rfl))
        (pss_one (ps_set (i := 2) sc__law_mix.nd rfl (.inl rfl) (pe_op op_mod (pe_op op_add (pe_op op_add (pe_op op_mul (pv 2) pe_int) (pe_op op_mod (pv 3) pe_int)) pe_int) pe_int))))
      (pss_one (ps_ret (pe_lst (pa_cons (pv 2) (pa_cons (pe_callTy call_list_of (by rfl) B.list (by decide +kernel) (pa_cons (pv 0) pa_nil)) (pa_cons pe_int pa_nil))))))), ?_⟩
    refine ⟨_, rfl, _, rfl, a, rfl, ⟨_, hF.sq⟩, for_list (K := K) (a := a) (xs := ns.map V.int) (fun i σ H' => H' = H ∧ ∃ (m : Int) (v : Option V), σ = [some (.ref a), some (.int sd), some (.int m), v]) ⟨rfl, sd, none, rfl⟩ (fun i σ H' _ ⟨e, _⟩ => by subst e; exact hF.sq) ?_ ?_⟩
    · rintro i x σ H' hi ⟨rfl, m, v, rfl⟩
      rw [List.getElem?_map] at hi
      obtain ⟨z, hz, rfl⟩ : ∃ z, ns[i]? = some z ∧ x = V.int z := by
        cases e : ns[i]? with
        | none =>
          rw [e] at hi
          cases hi
        | some z =>
          rw [e] at hi
          exact ⟨z, rfl, (Option.some.inj hi).symm⟩
      exact ⟨_, rfl, _, _, rfl, rfl, .inr ⟨by decide, by decide⟩, _, rfl, _, _, rfl, rfl, (by show (0 : Int) < 2147483629; decide), _, _, rfl, rfl, _, _, rfl, rfl, _, _, rfl, rfl, (by show (0 : Int) < 2147483647; decide), rfl, _, _, rfl⟩
    · rintro σ H' ⟨rfl, m, v, rfl⟩
      refine ⟨_, rfl, _, rfl, a, _, rfl, .inl hF.sq, fun l hl => ⟨by show 3 ≤ sizeLine; decide, fun h hh => ?_⟩⟩
      have hne : h ≠ l := fun z => by
        rw [z, upd_same] at hh
        cases hh
      exact k h l _ (sn_none (same_upd hl) hh) hl ((same_upd hl).trans (same_upd hh)) ⟨m, 0, ns, upd_same, (same_upd hh) _ _ upd_same, hlen, hne⟩
abbrev s__law_next : Stmt := top 37
abbrev n__law_next : List Str := ["_law_h", "_law_limit", "_law_cell"]
theorem sc__law_next : FnScope n__law_next ["_law_h", "_law_limit"] (defScope s__law_next) := ⟨rfl, rfl, rfl, by decide +kernel, rfl, by decide +kernel, by decide +kernel⟩
theorem ok__law_next {f : Addr} {fd : FuncData} (F : Fun K "_law_next" "_law_next" s__law_next f fd) (B : Bt mg) : FnOk P w K mg base CX0 1 f fd ["_law_h", "_law_limit"] spNext := by
  refine F.ok sc__law_next (fun vs H Q E h => ?_) (fun cdv A outer s H vs Q E hr h => ?_)
  · obtain ⟨h, l, n, rfl, _⟩ := h
    rfl
  · obtain ⟨h, l, n, rfl, ⟨m, kk, ns, eh, el, hlen, hne⟩, n0, n1, k⟩ := h
    refine ⟨_, pss_cons (ps_set (i := 2) sc__law_next.nd rfl (.inl rfl) (pe_ix ix_list (pe_op op_cat (pe_ix ix_list (pv 0) pe_int (fun _ _ => rfl)) (pe_lst (pa_cons pe_int pa_nil))) (pe_op op_mod (pe_ix ix_list (pv 0) pe_int (fun _ _ => rfl)) (pe_callB (call_max2 rfl) (by rfl) B.max (by decide +kernel) (pa_cons pe_int (pa_cons (pe_callB call_len_seq (by rfl) B.len PySem.boot_len (pa_cons (pe_ix ix_list (pv 0) pe_int (fun _ _ => rfl)) pa_nil)) pa_nil)))) (fun _ _ => rfl)))
      (pss_cons (ps_if (pt_cmpR op_ge (pv 2) (pe_op op_pow pe_int pe_int) (nomark _))
        (pss_cons (ps_asg (pe_op op_fdivW (pv 2) (pv 1)) (pg_sub (pe_ix ix_list (pv 0) pe_int (fun _ _ => rfl)) (pe_op op_mod (pe_ix ix_list (pv 0) pe_int (fun _ _ => rfl)) (pe_callB call_len_seq (by rfl) B.len PySem.boot_len (pa_cons (pe_ix ix_list (pv 0) pe_int (fun _ _ => rfl)) pa_nil))) set_list))
        (pss_one (ps_ret (pe_op op_mod (pv 2) (pv 1))))) pss_nil)
      (pss_cons (ps_asg (pe_op op_mod (pe_op op_add (pe_op op_add (pe_op op_mul (pe_ix ix_list (pv 0) pe_int (fun _ _ => rfl)) pe_int) (pe_op op_mul (pv 2) pe_int)) pe_int) pe_int) (pg_sub (pv 0) pe_int set_list))
      (pss_cons (ps_asg (pe_op op_add (pe_ix ix_list (pv 0) pe_int (fun _ _ => rfl)) pe_int) (pg_sub (pv 0) pe_int set_list))
      (pss_one (ps_ret (pe_op op_mod (pe_op op_fdiv (pe_ix ix_list (pv 0) pe_int (fun _ _ => rfl)) pe_int) (pv 1))))))), ?_⟩
    have hw : ∀ i, CDivW i n := fun i => wide_div (b := 63) n0 (by omega) (by decide) (by decide)
    refine ⟨_, rfl, h, _, _, _, rfl, rfl, SqL.of eh, at_of (j := 1) rfl rfl, by show 1 ≤ sizeLine; decide, fun p1 hp1 => ?_⟩
    have s1 := same_upd (o := .lst [.int 0]) hp1
    have lm : (ns.map V.int).length = ns.length := List.length_map ..
    refine ⟨l, p1, _, _, rfl, rfl, s1 _ _ el, upd_same, by rw [lm, sizeLine_eq]; show ns.length + 1 ≤ _; omega, fun p2 hp2 => ?_⟩
    have s2 := s1.trans (same_upd (o := .lst (ns.map V.int ++ [.int 0])) hp2)
    have e2 : (upd (upd H p1 (.lst [.int 0])) p2 (.lst (ns.map V.int ++ [.int 0]))) p2 = some (.lst ((ns ++ [0]).map V.int)) := upd_lst (by rw [List.map_append]; rfl)
    generalize upd (upd H p1 (.lst [.int 0])) p2 (.lst (ns.map V.int ++ [.int 0])) = H2 at *
    have eh2 := s2 _ _ eh
    have el2 := s2 _ _ el
    refine ⟨_, rfl, h, _, _, _, rfl, rfl, SqL.of eh2, at_of (j := 2) rfl rfl, _, rfl, h, _, _, _, rfl, rfl, SqL.of eh2, at_of (j := 1) rfl rfl, l, _, rfl, .inl (SqL.of el2), 1, _, rfl, ?_⟩
    rw [lm]
    have mpos : (0 : Int) < (if (ns.length : Int) > 1 then (ns.length : Int) else 1) := by split <;> omega
    refine ⟨_, _, rfl, rfl, mpos, ?_⟩
    obtain ⟨j, ej⟩ : ∃ j : Nat, kk % (if (ns.length : Int) > 1 then (ns.length : Int) else 1) = (j : Int) := ⟨(kk % (if (ns.length : Int) > 1 then (ns.length : Int) else 1)).toNat, by rw [Int.toNat_of_nonneg (Int.emod_nonneg _ (by omega))]⟩
    have hj : j < ns.length + 1 := by
      have z := Int.emod_lt_of_pos kk mpos
      rw [ej] at z
      split at z <;> omega
    obtain ⟨cell, hc⟩ : ∃ cell, (ns ++ [0])[j]? = some cell := ⟨_, List.getElem?_eq_getElem (by rw [List.length_append]; exact hj)⟩
    refine ⟨p2, _, _, _, rfl, rfl, SqL.of e2, at_of (j := j) (v := V.int cell) ej (by rw [List.getElem?_map, hc]; rfl), ?_⟩
    refine ⟨_, rfl, _, _, rfl, rfl, ⟨by decide, by decide, by decide⟩, _, _, rfl, rfl, _, rfl, ?_⟩
    have b02 : But2 h l H H2 := But2.of s2
    have fin : ∀ (r m' k' : Int) (ns' : List Int) (H' : Hp), 0 ≤ r → r < n → ns'.length = ns.length → H' h = some (.lst [.int m', .ref l, .int k']) → H' l = some (.lst (ns'.map V.int)) → But2 h l H2 H' → Q (.int r) H' := fun r m' k' ns' H' r0 r1 nl e1 e2 b =>
      k r H' r0 r1 ⟨m', k', ns', e1, e2, by omega, hne⟩ (b02.trans b)
    refine ite2 (fun c => ?_) (fun _ => ?_)
    · have c18 : (10 : Int) ^ (18 : Int).toNat ≤ cell := of_decide_eq_true c
      have hjn : j < ns.length := by
        rcases Nat.lt_or_ge j ns.length with z | z
        · exact z
        · exfalso
          have : j = ns.length := by omega
          subst this
          rw [List.getElem?_append_right (Nat.le_refl _), Nat.sub_self] at hc
          cases hc
          exact absurd c18 (by decide)
      have npos : (0 : Int) < (ns.length : Int) := by omega
      have em : kk % (ns.length : Int) = (j : Int) := by
        rw [← ej]
        by_cases g : (ns.length : Int) > 1
        · rw [if_pos g]
        · rw [if_neg g]
          have : (ns.length : Int) = 1 := by omega
          rw [this]
      refine ⟨_, rfl, _, rfl, _, _, rfl, rfl, hw _, ?_⟩
      refine ⟨_, rfl, h, _, _, _, rfl, rfl, SqL.of eh2, at_of (j := 1) rfl rfl, _, rfl, h, _, _, _, rfl, rfl, SqL.of eh2, at_of (j := 2) rfl rfl, _, rfl, h, _, _, _, rfl, rfl, SqL.of eh2, at_of (j := 1) rfl rfl, l, _, rfl, .inl (SqL.of el2), _, _, rfl, rfl, by rw [lm]; exact npos, ?_⟩
      have ix : ixN (ns.map V.int).length (kk % ((ns.map V.int).length : Int)) = some j := by
        rw [lm, em]
        unfold ixN
        rw [if_pos (by omega), if_pos (by omega), Int.toNat_natCast]
      refine ⟨l, _, _, j, rfl, rfl, el2, ix, ?_⟩
      refine ⟨_, rfl, _, rfl, _, _, rfl, rfl, n0, ?_⟩
      have ns' : (ns.map V.int).set j (.int (cell / n)) = (ns.set j (cell / n)).map V.int := by rw [List.map_set]
      refine fin (cell % n) m kk (ns.set j (cell / n)) _ (Int.emod_nonneg _ (by omega)) (Int.emod_lt_of_pos _ n0) (List.length_set ..) (by rw [upd_ne hne]; exact eh2) (upd_lst ns') fun b o _ nl e => by rw [upd_ne nl]; exact e
    · refine ⟨_, rfl, h, _, _, _, rfl, rfl, SqL.of eh2, at_of (j := 0) rfl rfl, _, _, rfl, rfl, .inr ⟨by decide, by decide⟩, _, rfl, _, _, rfl, rfl, .inr ⟨by decide, by decide⟩, _, _, rfl, rfl, _, _, rfl, rfl, _, _, rfl, rfl, (by show (0 : Int) < 2147483647; decide), ?_⟩
      refine ⟨_, rfl, h, _, _, 0, rfl, rfl, eh2, rfl, ?_⟩
      refine ⟨_, rfl, h, _, _, _, rfl, rfl, SqL.of upd_same, at_of (j := 2) rfl rfl, _, _, rfl, rfl, ?_⟩
      refine ⟨_, rfl, h, _, _, 2, rfl, rfl, upd_same, rfl, ?_⟩
      refine ⟨_, rfl, h, _, _, _, rfl, rfl, SqL.of upd_same, at_of (j := 0) rfl rfl, _, _, rfl, rfl, ⟨by decide, by decide⟩, _, rfl, _, _, rfl, rfl, n0, ?_⟩
      refine fin _ _ _ ns _ (Int.emod_nonneg _ (by omega)) (Int.emod_lt_of_pos _ n0) rfl upd_same (by rw [upd_ne (Ne.symm hne), upd_ne (Ne.symm hne)]; exact el2) fun b o nh _ e => by rw [upd_ne nh, upd_ne nh]; exact e
end
end Cc

/-! The laws of the second part: drawn steps, the plan of steps. -/
namespace Cc
open PySem PySem.Spec PyProof.Rows L2
theorem Steps.but2 {h l : Addr} {H H1 : Hp} {ws : List V} {ss : List Stp} (g : Steps H ws ss) (b : But2 h l H H1) (n : NextAt H h l) : Steps H1 ws ss := g.mono (b.tup n)
theorem PlanAt.but2 {C h l p : Addr} {H H1 : Hp} {ss : List Stp} (g : PlanAt C H p ss) (b : But2 h l H H1) (n : NextAt H h l) : PlanAt C H1 p ss :=
  let ⟨dx, tp, ws, a, e, s⟩ := g
  let ⟨o, d0, e'⟩ := e
  ⟨dx, tp, ws, b.ins n a, ⟨o, d0, b _ _ (let ⟨_, q⟩ := n.h1; ne_of e' q fun z => nomatch z) (let ⟨_, q⟩ := n.l1; ne_of e' q fun z => nomatch z) e'⟩, s.but2 b n⟩
theorem steps_upd {H : Hp} {l : Addr} {xs ys : List V} {ws : List V} {ss : List Stp} (h : H l = some (.lst xs)) (s : Steps H ws ss) : Steps (upd H l (.lst ys)) ws ss := s.mono fun t us e => by
  rw [upd_ne (ne_of e h fun z => nomatch z)]
  exact e
def spSteps2 : Sp := fun vs H Q _ => ∃ (h l : Addr) (c m : Int), vs = [.ref h, .int c, .int m] ∧ NextAt H h l ∧ 0 ≤ c ∧ c ≤ 1000000000000000000 ∧ 0 ≤ m ∧ m ≤ 50 ∧
  ∀ r ws ss H', H r = none → H' r = some (.lst ws) → Steps H' ws ss → (ss.length : Int) ≤ m → (∀ s ∈ ss, s.ok c) → NextAt H' h l → But2 h l H H' → Q (.ref r) H'
def spLPlan (C : Addr) : Sp := fun vs H Q _ => ∃ (l : Addr) (ws : List V) (ss : List Stp), vs = [.ref l] ∧ H l = some (.lst ws) ∧ Steps H ws ss ∧ ss.length ≤ 60 ∧ (∀ s ∈ ss, s.ok 1000000000000000000) ∧ ∀ p H', Same H H' → PlanAt C H' p ss → Q (.ref p) H'
section
variable {P : Program} {w : World} {K : PySem.W.Frag} {mg : Str → Option Value} {base : Heap} {C TU pS gS : Addr} {mc : Value}
abbrev s__law_steps : Stmt := top 41
abbrev n__law_steps : List Str := ["_law_h", "_law_chairs", "_law_most", "_law_found", "_law_k"]
theorem sc__law_steps : FnScope n__law_steps ["_law_h", "_law_chairs", "_law_most"] (defScope s__law_steps) := ⟨rfl, rfl, rfl, by decide +kernel, rfl, by decide +kernel, by decide +kernel⟩
theorem ok__law_steps {f f__law_next : Addr} {fd : FuncData} (F : Fun K "_law_steps" "_law_steps" s__law_steps f fd) (B : Bt mg) (D__law_next : Dn P w K mg base 1 "_law_next" f__law_next spNext) : FnOk P w K mg base CX0 2 f fd ["_law_h", "_law_chairs", "_law_most"] spSteps2 := by
  refine F.ok sc__law_steps (fun vs H Q E h => ?_) (fun cdv A outer s H vs Q E hr h => ?_)
  · obtain ⟨h, l, c, m, rfl, _⟩ := h
    rfl
  · obtain ⟨h, l, c, m, rfl, N0, c0, c1, m0, m1, k⟩ := h
    refine ⟨_, pss_cons (ps_set (i := 3) sc__law_steps.nd rfl (.inl rfl) (pe_lst pa_nil))
      (pss_cons (ps_for PassesOwn.never rfl (pi_range1 rfl B.range (pa_cons (pe_callR D__law_next.ok (hr.mono (by decide)) rfl D__law_next.at_ D__law_next.kp pass0 (pa_cons (pv 0) (pa_cons (pe_op op_add (pv 2) pe_int) pa_nil))) pa_nil)) (pg_name (i := 4) sc__law_steps.nd rfl (.inl rfl))
        (pss_one (ps_if (pt_cmpR op_eq (pe_callR D__law_next.ok (hr.mono (by decide)) rfl D__law_next.at_ D__law_next.kp pass0 (pa_cons (pv 0) (pa_cons pe_int pa_nil))) pe_int (nomark _))
          (pss_one (ps_expr (pe_bm PySem.F.plainAttrs_list PySem.F.slot_list_append PySem.F.type_list_append mt_append (pv 3) (pa_cons (pe_tup (pa_cons pe_str pa_nil)) pa_nil))))
          (pss_one (ps_expr (pe_bm PySem.F.plainAttrs_list PySem.F.slot_list_append PySem.F.type_list_append mt_append (pv 3) (pa_cons (pe_tup (pa_cons (pe_ix ix_list (pe_lst (pa_cons pe_str (pa_cons pe_str pa_nil))) (pe_callR D__law_next.ok (hr.mono (by decide)) rfl D__law_next.at_ D__law_next.kp pass0 (pa_cons (pv 0) (pa_cons pe_int pa_nil))) (fun _ _ => rfl)) (pa_cons (pe_callR D__law_next.ok (hr.mono (by decide)) rfl D__law_next.at_ D__law_next.kp pass0 (pa_cons (pv 0) (pa_cons (pe_op op_add (pv 1) pe_int) pa_nil))) pa_nil))) pa_nil)))))))
      (pss_one (ps_ret (pv 3)))), ?_⟩
    refine ⟨by show 0 ≤ sizeLine; decide, fun r0 hr0 => ?_⟩
    have nh : r0 ≠ h := fun z => by
      subst z
      obtain ⟨xs, e⟩ := N0.h1
      rw [hr0] at e
      cases e
    have nl : r0 ≠ l := fun z => by
      subst z
      obtain ⟨xs, e⟩ := N0.l1
      rw [hr0] at e
      cases e
    have s0 := same_upd (o := .lst []) hr0
    refine ⟨_, rfl, _, rfl, _, _, rfl, rfl, h, l, m + 1, rfl, N0.same s0, by omega, by omega, fun n H1 n0 n1 N1 b1 => ⟨_, rfl, by omega, by omega, ?_⟩⟩
    have cc : ∀ {Hx Hy : Hp}, But2 h l Hx Hy → ∀ {xs}, Hx r0 = some (.lst xs) → Hy r0 = some (.lst xs) := fun b _ e => b _ _ nh nl e
    refine for_range (lo := 0) (n := n.toNat) (fun i σ H' => ∃ (ws : List V) (ss : List Stp) (x : Option V), σ = [some (.ref h), some (.int c), some (.int m), some (.ref r0), x] ∧ NextAt H' h l ∧ But2 h l H H' ∧ H' r0 = some (.lst ws) ∧ Steps H' ws ss ∧ ss.length = i ∧ ∀ s ∈ ss, s.ok c)
      ⟨[], [], none, rfl, N1, (But2.of s0).trans b1, cc b1 upd_same, .nil, rfl, fun s hs => nomatch hs⟩ ?_ ?_
    · rintro i σ H2 hi ⟨ws, ss, x, rfl, N2, b2, e2, g2, sl, so⟩
      have lw : ws.length = i := by rw [g2.length, sl]
      have fin : ∀ (st : Stp) (t : Addr) (H3 : Hp), NextAt H3 h l → But2 h l H2 H3 → H3 t = none → st.ok c → ∃ (ws' : List V) (ss' : List Stp) (x' : Option V), ([some (V.ref h), some (V.int c), some (V.int m), some (V.ref r0), some (V.int (0 + (i : Nat)))] : L2.St) = [some (.ref h), some (.int c), some (.int m), some (.ref r0), x'] ∧
          NextAt (upd (upd H3 t (.tup (stpV st))) r0 (.lst (ws ++ [.ref t]))) h l ∧ But2 h l H (upd (upd H3 t (.tup (stpV st))) r0 (.lst (ws ++ [.ref t]))) ∧ (upd (upd H3 t (.tup (stpV st))) r0 (.lst (ws ++ [.ref t]))) r0 = some (.lst ws') ∧ Steps (upd (upd H3 t (.tup (stpV st))) r0 (.lst (ws ++ [.ref t]))) ws' ss' ∧ ss'.length = i + 1 ∧ ∀ s ∈ ss', s.ok c := by
        intro st t H3 N3 b3 ht ok
        have s3 := same_upd (o := .tup (stpV st)) ht
        have e3 := s3 _ _ (cc b3 e2)
        have nt : t ≠ r0 := (ne_of_none (cc b3 e2) ht).symm
        have g3 := steps_upd (ys := ws ++ [.ref t]) e3 ((g2.but2 b3 N2).same s3)
        have N4 := N3.same s3
        obtain ⟨mm, kk, ns, q1, q2, q3, q4⟩ := N4
        refine ⟨ws ++ [.ref t], ss ++ [st], _, rfl, ⟨mm, kk, ns, by rw [upd_ne (Ne.symm nh)]; exact q1, by rw [upd_ne (Ne.symm nl)]; exact q2, q3, q4⟩, fun b o a1 a2 e => ?_, upd_same, g3.append (.cons ⟨t, rfl, by rw [upd_ne nt, upd_same]⟩ .nil), by rw [List.length_append, sl]; rfl, fun s hs => ?_⟩
        · rw [upd_ne (ne_of_none e hr0)]
          exact s3 _ _ (b3 _ _ a1 a2 (b2 _ _ a1 a2 e))
        · rcases (List.mem_append.mp hs) with q | q
          · exact so s q
          · rw [(List.mem_singleton.mp q)]
            exact ok
      refine ⟨_, rfl, h, l, 5, rfl, N2, by decide, by decide, fun r2 H3 _ _ N3 b3 => ⟨rfl, _, rfl, ?_⟩⟩
      have e3 := cc b3 e2
      refine ite2 (fun _ => ?_) (fun _ => ?_)
      · refine ⟨_, rfl, .inl ⟨rfl, _, SqL.of e3⟩, by show 1 ≤ sizeLine; decide, fun t ht => ⟨r0, ws, _, rfl, rfl, (same_upd ht) _ _ e3, small1000 (by omega), ?_⟩⟩
        exact fin .turn t H3 N3 b3 ht trivial
      · refine ⟨_, rfl, .inl ⟨rfl, _, SqL.of e3⟩, by show 2 ≤ sizeLine; decide, fun l2 hl2 => ?_⟩
        have s4 := same_upd (o := .lst [.str "red", .str "blue"]) hl2
        refine ⟨_, rfl, h, l, 2, rfl, N3.same s4, by decide, by decide, fun rr H5 q0 q1 N5 b5 => ?_⟩
        have n2h : l2 ≠ h := let ⟨_, e⟩ := N3.h1; (ne_of_none e hl2).symm
        have n2l : l2 ≠ l := let ⟨_, e⟩ := N3.l1; (ne_of_none e hl2).symm
        obtain ⟨bb, hb⟩ : ∃ bb, atI [V.str "red", V.str "blue"] rr = some (V.str (roomS bb)) := by
          have : rr = ((0 : Nat) : Int) ∨ rr = ((1 : Nat) : Int) := by omega
          rcases this with z | z
          · exact ⟨true, at_of z rfl⟩
          · exact ⟨false, at_of z rfl⟩
        refine ⟨l2, _, _, _, rfl, rfl, SqL.of (b5 _ _ n2h n2l upd_same), hb, ?_⟩
        refine ⟨_, rfl, _, rfl, _, _, rfl, rfl, h, l, c + 1, rfl, N5, by omega, by omega, fun nd H6 d0 d1 N6 b6 => ⟨by show 2 ≤ sizeLine; decide, fun t ht => ?_⟩⟩
        have b36 : But2 h l H3 H6 := ((But2.of s4).trans b5).trans b6
        refine ⟨r0, ws, _, rfl, rfl, (same_upd ht) _ _ (cc b36 e3), small1000 (by omega), ?_⟩
        exact fin (.meet bb nd) t H6 N6 (b3.trans b36) ht ⟨d0, by omega⟩
    · rintro σ H2 ⟨ws, ss, x, rfl, N2, b2, e2, g2, sl, so⟩
      exact ⟨_, rfl, k r0 ws ss H2 hr0 e2 g2 (by omega) so N2 b2⟩
abbrev s__law_plan : Stmt := top 42
abbrev n__law_plan : List Str := ["_law_steps_here", "_law_plan_here", "_law_step_here"]
theorem sc__law_plan : FnScope n__law_plan ["_law_steps_here"] (defScope s__law_plan) := ⟨rfl, rfl, rfl, by decide +kernel, rfl, by decide +kernel, by decide +kernel⟩
theorem ok__law_plan {f fI fJ : Addr} {fd : FuncData} (F : Fun K "_law_plan" "_law_plan" s__law_plan f fd) (T : Txt K mg C TU pS gS mc) (M : Mk K C fI) (GI : FnR P w K mg base CX0 3 fI (spInit C)) (MJ : Meth K C "joined" fJ) (GJ : FnR P w K mg base CX0 5 fJ (spJoined C)) : FnOk P w K mg base CX0 6 f fd ["_law_steps_here"] (spLPlan C) := by
  refine F.ok sc__law_plan (fun vs H Q E h => ?_) (fun cdv A outer s H vs Q E hr h => ?_)
  · obtain ⟨l, ws, ss, rfl, _⟩ := h
    rfl
  · obtain ⟨l, ws, ss, rfl, hl, hs, hn, ho, k⟩ := h
    refine ⟨_, pss_cons (ps_set (i := 1) sc__law_plan.nd rfl (.inl rfl) (pe_makeR0 M GI (hr.mono (by decide)) rfl T.gP pass0))
      (pss_cons (ps_for PassesOwn.never rfl (pi_list (pv 0)) (pg_name (i := 2) sc__law_plan.nd rfl (.inl rfl))
        (pss_one (ps_set (i := 1) sc__law_plan.nd rfl (.inl rfl) (pe_methR (pv 1) T.cl MJ GJ (hr.mono (by decide)) pass0 (pa_cons (StX.pe_makeR M GI (hr.mono (by decide)) rfl T.gP pass0 (pa_cons (pv 2) pa_nil)) pa_nil)))))
      (pss_one (ps_ret (pv 1)))), ?_⟩
    intro x dx hx hdx hne
    have made : ∀ {H : Hp} {x dx : Addr}, H x = none → H dx = none → Same H (upd (upd H dx (.own x)) x (.ins C dx [])) := fun hx hdx b o e => by
      rw [upd_ne (ne_of_none e hx), upd_ne (ne_of_none e hdx)]
      exact e
    refine ⟨x, dx, [], [], rfl, upd_same, .nil, by decide, by simp, fun H1 tp b1 b2 b3 => ⟨rfl, ?_⟩⟩
    have s1 : Same H H1 := fun b o e => b1 b o (ne_of_none e hx) (made hx hdx b o e)
    refine ⟨_, rfl, l, rfl, ⟨_, SqL.of (s1 _ _ hl)⟩, for_list (K := K) (a := l) (xs := ws) (fun i σ H' => ∃ (p : Addr) (v : Option V), σ = [some (.ref l), some (.ref p), v] ∧ Same H H' ∧ PlanAt C H' p (ss.take i))
      ⟨x, none, rfl, s1, dx, tp, [], b2, b3, .nil⟩ (fun i σ H' _ ⟨_, _, _, s2, _⟩ => SqL.of (s2 _ _ hl)) ?_ ?_⟩
    · rintro i y σ H' hi ⟨p, v, rfl, s2, pl⟩
      obtain ⟨st, hst, t, rfl, ht⟩ := hs.get hi
      have okst := ho st (List.mem_of_getElem? hst)
      obtain ⟨dp, tq, zs, e1, e2, e3⟩ := id pl
      refine ⟨_, rfl, p, dp, _, rfl, e1, lk_no (by decide +kernel), _, rfl, fun q dq hq hdq hne => ?_⟩
      have s3 : Same H' (upd (upd H' dq (.own q)) q (.ins C dq [])) := made hq hdq
      have ht2 := s3 _ _ (s2 _ _ ht)
      refine ⟨q, dq, [.ref t], [st], rfl, upd_same, .cons ⟨t, rfl, ht2⟩ .nil, by show 1 ≤ 60; decide, fun z hz => (List.mem_singleton.mp hz) ▸ okst, fun H2 tz b4 b5 b6 => ⟨rfl, ?_⟩⟩
      have s4 : Same H' H2 := fun b o e => b4 b o (ne_of_none e hq) (s3 b o e)
      have le : i < ss.length := (List.getElem?_eq_some_iff.mp hst).1
      have et : ss.take i ++ [st] = ss.take (i + 1) := (take_more hst).symm
      refine ⟨p, ss.take i, q, [st], rfl, pl.same s4, ⟨dq, tz, [.ref t], b5, b6, .cons ⟨t, rfl, s4 _ _ (s2 _ _ ht)⟩ .nil⟩, ?_, ?_, fun r H3 s5 pr => ?_⟩
      · rw [et, List.length_take]
        omega
      · rw [et]
        exact fun z hz => ho z (List.mem_of_mem_take hz)
      · rw [et] at pr
        exact ⟨r, _, rfl, (s2.trans s4).trans s5, pr⟩
    · rintro σ H' ⟨p, v, rfl, s2, pl⟩
      rw [hs.length, List.take_length] at pl
      exact ⟨_, rfl, k p H' s2 pl⟩
end
end Cc

/-! Steps of which some are the module's own turn. -/
namespace Cc
open PySem PySem.Spec PyProof.Rows L2
/-- a step, wherever its tuple stands -/
def StepV (K : PySem.W.Frag) (H : Hp) (v : V) (s : Stp) : Prop := ∃ t, v = .ref t ∧ ∀ H', (∀ t xs, H t = some (.tup xs) → H' t = some (.tup xs)) → SqT K H' t (stpV s)
def StepsV (K : PySem.W.Frag) (H : Hp) (vs : List V) (ss : List Stp) : Prop := Paired (StepV K H) vs ss
theorem StepV.of {K : PySem.W.Frag} {H : Hp} {v : V} {s : Stp} (h : StepAt H v s) : StepV K H v s :=
  let ⟨t, e, g⟩ := h
  ⟨t, e, fun H' k => SqT.of (k _ _ g)⟩
theorem StepV.mono {K : PySem.W.Frag} {H H1 : Hp} {v : V} {s : Stp} (h : StepV K H v s) (m : ∀ t xs, H t = some (.tup xs) → H1 t = some (.tup xs)) : StepV K H1 v s :=
  let ⟨t, e, g⟩ := h
  ⟨t, e, fun H' k => g H' fun t xs z => k t xs (m t xs z)⟩
theorem StepsV.of {K : PySem.W.Frag} {H : Hp} : ∀ {vs : List V} {ss : List Stp}, Steps H vs ss → StepsV K H vs ss
  | _, _, .nil => .nil
  | _, _, .cons a r => .cons (.of a) (StepsV.of r)
theorem StepsV.mono {K : PySem.W.Frag} {H H1 : Hp} : ∀ {vs : List V} {ss : List Stp}, StepsV K H vs ss → (∀ t xs, H t = some (.tup xs) → H1 t = some (.tup xs)) → StepsV K H1 vs ss
  | _, _, .nil, _ => .nil
  | _, _, .cons a r, m => .cons (a.mono m) (StepsV.mono r m)
theorem StepsV.append {K : PySem.W.Frag} {H : Hp} : ∀ {vs ws : List V} {ss us : List Stp}, StepsV K H vs ss → StepsV K H ws us → StepsV K H (vs ++ ws) (ss ++ us)
  | _, _, _, _, .nil, h => h
  | _, _, _, _, .cons a r, h => .cons a (StepsV.append r h)
theorem StepsV.length {K : PySem.W.Frag} {H : Hp} {vs : List V} {ss : List Stp} (h : StepsV K H vs ss) : vs.length = ss.length := Paired.length h
theorem StepsV.get {K : PySem.W.Frag} {H : Hp} : ∀ {vs : List V} {ss : List Stp} {i : Nat} {v : V}, StepsV K H vs ss → vs[i]? = some v → ∃ s, ss[i]? = some s ∧ StepV K H v s
  | _, _, 0, _, .cons a r, e => by
    cases e
    exact ⟨_, rfl, a⟩
  | _, _, i + 1, v, .cons a r, e => StepsV.get (i := i) r e
theorem StepsV.same {K : PySem.W.Frag} {H H1 : Hp} {vs : List V} {ss : List Stp} (h : StepsV K H vs ss) (s : Same H H1) : StepsV K H1 vs ss := h.mono fun t xs e => s _ _ e
theorem same_none {H H1 : Hp} {p : Addr} (s : Same H H1) (h : H1 p = none) : H p = none := by
  cases e : H p with
  | none => rfl
  | some o =>
    rw [s _ _ e] at h
    cases h
theorem sqT_ty {K : PySem.W.Frag} {H : Hp} {t : Addr} {xs : List V} (h : SqT K H t xs) : TyX K H (.ref t) (.type "tuple") := by
  rcases h with (h | ⟨o, h⟩) | ⟨o, its, n, h, c, _⟩
  · exact .base (.tup h)
  · exact .fTuple h
  · exact .kTuple h c
def spIsStepV (K : PySem.W.Frag) : Sp := fun vs H Q _ => ∃ (v : V) (s : Stp), vs = [v] ∧ StepV K H v s ∧ s.ok 1000000000000000000 ∧ ∀ H', Same H H' → Q (.bl true) H'
def spInitSV (K : PySem.W.Frag) (C : Addr) : Sp := fun vs H Q _ => ∃ (x tp dx : Addr) (ws : List V) (ss : List Stp), vs = [.ref x, .ref tp] ∧ H x = some (.ins C dx []) ∧ TupP H tp ws ∧ StepsV K H ws ss ∧ ss.length ≤ 60 ∧ (∀ s ∈ ss, s.ok 1000000000000000000) ∧
  ∀ H', But x H H' → H' x = some (.ins C dx [("step_tuple", .ref tp)]) → Q .non H'
def spInitV (K : PySem.W.Frag) (C : Addr) : Sp := fun vs H Q _ => ∃ (x dx : Addr) (ws : List V) (ss : List Stp), vs = .ref x :: ws ∧ H x = some (.ins C dx []) ∧ StepsV K H ws ss ∧ ss.length ≤ 60 ∧ (∀ s ∈ ss, s.ok 1000000000000000000) ∧
  ∀ H' tp, But x H H' → H' x = some (.ins C dx [("step_tuple", .ref tp)]) → TupP H' tp ws → Q .non H'
/-- a plan, some of whose turns may be the module's -/
def PlanV (K : PySem.W.Frag) (C : Addr) (H : Hp) (p : Addr) (ss : List Stp) : Prop := ∃ dx tp ws, H p = some (.ins C dx [("step_tuple", .ref tp)]) ∧ TupP H tp ws ∧ StepsV K H ws ss
theorem PlanV.same {K : PySem.W.Frag} {C : Addr} {H H1 : Hp} {p : Addr} {ss : List Stp} (h : PlanV K C H p ss) (s : Same H H1) : PlanV K C H1 p ss :=
  let ⟨dx, tp, ws, a, b, c⟩ := h
  ⟨dx, tp, ws, s _ _ a, b.same s, c.same s⟩
section
variable {P : Program} {w : World} {K : PySem.W.Frag} {mg : Str → Option Value} {base : Heap} {C TU pS gS : Addr} {mc : Value}
theorem turn_stepV (T : Txt K mg C TU pS gS mc) (H : Hp) : StepV K H (.ref TU) .turn := ⟨TU, rfl, fun H' _ => T.tT H'⟩
theorem ok_isstepV {f fN : Addr} {fd : FuncData} (F : Fun K "is_step" "is_step" sIsStep f fd) (T : Txt K mg C TU pS gS mc) (N : Dn P w K mg base 1 "is_number" fN spIsNum) : FnOk P w K mg base CX0 2 f fd ["step"] (spIsStepV K) := by
  refine F.ok scIsStep (fun vs H Q E h => ?_) (fun cdv A outer s H vs Q E hr h => ?_)
  · obtain ⟨v, s, rfl, _⟩ := h
    rfl
  · obtain ⟨v, st, rfl, ⟨t, rfl, ht'⟩, ok, k⟩ := h
    have ht := ht' H fun _ _ e => e
    obtain ⟨u, hu⟩ := T.cc
    refine ⟨_, pss_cons (ps_if (pt_not (pt_val (pe_callB call_isi (by rfl) T.b.isinstance (by decide +kernel) (pa_cons (pv 0) (pa_cons (pe_bltn (v := .ty "tuple") (by rfl) T.b.tuple (by decide +kernel) rfl) pa_nil))))) (pss_one (ps_ret pe_bl)) pss_nil)
      (pss_cons (ps_if (pt_cmpR op_eq (pe_callB call_len (by rfl) T.b.len PySem.boot_len (pa_cons (pv 0) pa_nil)) pe_int (nomark _))
        (pss_one (ps_ret (pe_and (pe_cmpR op_in_seq (pe_ix ix_tup (pv 0) pe_int (fun _ _ => rfl)) (pe_tup (pa_cons pe_str (pa_cons pe_str pa_nil))) (by rfl))
          (pe_one (pe_callR N.ok hr rfl N.at_ N.kp pass0 (pa_cons (pe_ix ix_tup (pv 0) pe_int (fun _ _ => rfl)) (pa_cons pe_int (pa_cons (ClX.pe_cval (pe_glob (v := .ref C) rfl T.gP rfl)) pa_nil)))))))) pss_nil)
      (pss_one (ps_ret (pe_cmpR (op_eqD hr.units) (pv 0) (pe_glob (v := .ref TU) rfl T.gT rfl) (nomark _))))), ?_⟩
    refine ⟨_, rfl, _, _, _, _, true, rfl, .ty "tuple", sqT_ty ht, kit_ty (by decide +kernel), true, rfl, ?_⟩
    refine iteF ?_
    refine ⟨_, rfl, _, _, rfl, .inr ⟨_, ht, rfl⟩, rfl, ?_⟩
    cases st with
    | turn =>
      refine ⟨_, rfl, iteF ?_⟩
      refine ⟨_, rfl, .tuple [.str "turn"], .tuple [.str "turn"], .tup ht (.cons (.str _) .nil), .tup (T.tT _) (.cons (.str _) .nil), by decide +kernel, by decide +kernel, ?_⟩
      have e : PyData.eqv (.tuple [.str "turn"]) (.tuple [.str "turn"]) = true := by decide +kernel
      rw [e]
      exact k H (Same.refl H)
    | meet bb n =>
      refine ⟨_, rfl, iteT ?_⟩
      refine ⟨_, rfl, t, _, _, _, rfl, rfl, ht, at_of (j := 0) rfl rfl, by show 2 ≤ sizeLine; decide, fun p hp => ?_⟩
      have s1 : Same H (upd H p (.tup [.str "red", .str "blue"])) := same_upd hp
      refine ⟨p, _, rfl, .inr (SqT.of upd_same), rfl, by decide, _, rfl, ?_⟩
      have e : inV (.str (roomS bb)) [.str "red", .str "blue"] = true := by cases bb <;> decide +kernel
      rw [e]
      refine iteT ⟨_, rfl, t, _, _, _, rfl, rfl, ht' _ fun _ _ z => s1 _ _ z, at_of (j := 1) rfl rfl, C, mc, _, u, rfl, T.rd, hu, n, 0, _, rfl, ?_⟩
      rw [decide_eq_true (show (0 : Int) ≤ n ∧ n ≤ 1000000000000000000 from ok)]
      exact k _ s1
theorem ok_initV {f fS : Addr} {fd : FuncData} (F : Fun K "__init__" "Plan.__init__" sInit f fd) (T : Txt K mg C TU pS gS mc) (N : Dn P w K mg base 2 "is_step" fS (spIsStepV K)) : FnR P w K mg base CX0 3 f (spInitV K C) := by
  obtain ⟨z1, z2, z3, z4, z5, z6, cdv, z7, z8, rfl, lk, hcd⟩ := F.ex
  refine (fn_starZ (ps := ["self"]) (pv := "steps") (sp := spInitSV K C) (k := 2) lk hcd scInit StX.cxUp_none (StX.bind_star1 (B := fun us => bindArgs _ ⟨us, []⟩) (fun _ => rfl) (fun _ _ _ => rfl)) fun A outer s H vs Q E hr h => ?_).imp fun vs H Q E h => ?_
  · obtain ⟨x, tp, dx, ws, ss, rfl, e1, e2, e3, hl, hs, k⟩ := h
    obtain ⟨u, hu⟩ := T.cs
    suffices h : ∃ t, PSs (cxOf CX0 P w K mg base ["self", "steps", "index", "step"] "Plan.__init__" (defScope sInit) f cdv A outer s H E).nox (defBody sInit) t ∧ t { nx := fun _ H' => Q .non H', rt := Q } (start ["self", "steps", "index", "step"] [.ref x, .ref tp]) H by
      obtain ⟨t, h1, h2⟩ := h
      exact ⟨t, h1.nox, h2⟩
    refine ⟨_, pss_cons (ps_for PassesOwn.never rfl (pi_enumT (by rfl) T.b.enumerate (pa_cons (pv 1) pa_nil))
        (pg_tup rfl (pgs_cons (pg_name (i := 2) scInit.nd rfl (.inl rfl)) (pgs_cons (pg_name (i := 3) scInit.nd rfl (.inl rfl)) pgs_nil)))
        (pss_one (ps_if (PW.pt (pw_or (pt_cmpR op_eq (pv 2) (ClX.pe_cval (pe_glob (v := .ref C) rfl T.gP rfl)) (nomark _))
          (pw_or1 (pt_not (pt_val (pe_callR N.ok hr rfl N.at_ N.kp pass0 (pa_cons (pv 3) pa_nil))))))) (pss_one ps_never) pss_nil)))
      (pss_one (ps_fld (pv 0) (pv 1) rfl)), ?_⟩
    refine ⟨_, rfl, tp, ws, rfl, e2.sq, ?_⟩
    refine for_it (walk_enumT (xs := ws)) (fun i σ H' => ∃ a b, σ = [some (.ref x), some (.ref tp), a, b] ∧ Same H H') ⟨none, none, rfl, Same.refl H⟩ (fun i σ H' _ ⟨_, _, _, s1⟩ => (e2.same s1).sq) ?_ ?_
    · rintro i v σ H1 H2 hi ⟨a, b, rfl, s1⟩ ⟨q, y1, y2, rfl, n1, rfl, z1, z2⟩
      obtain ⟨st, hst, hv⟩ := e3.get z2
      have okst := hs st (List.mem_of_getElem? hst)
      have s2 : Same H (upd H1 q (.tup [y1, y2])) := s1.trans (same_upd n1)
      cases z1
      refine ⟨q, _, rfl, SqT.of upd_same, rfl, _, _, rfl, _, _, rfl, rfl, ?_⟩
      have hi' : i < 60 := by
        have := e3.length
        omega
      refine ⟨_, rfl, C, mc, _, u, rfl, T.rd, hu, rfl, _, rfl, ?_⟩
      rw [decide_eq_false (show ¬ V.int (i : Int) = V.int 60 from fun z => by injection z with z; omega)]
      refine iteF ?_
      refine ⟨_, rfl, _, st, rfl, hv.mono fun _ _ z => s2 _ _ z, okst, fun H3 s3 => ⟨_, rfl, ?_⟩⟩
      exact iteF ⟨_, _, rfl, s2.trans s3⟩
    · rintro σ H' ⟨a, b, rfl, s1⟩
      refine ⟨_, rfl, _, rfl, x, C, dx, _, rfl, s1 _ _ e1, T.cl, T.nS, (by show 0 < 1000; decide), ?_⟩
      exact k _ (fun b o n e => by rw [upd_ne n]; exact s1 _ _ e) upd_same
  · obtain ⟨x, dx, ws, ss, rfl, e1, e3, hl, hs, k⟩ := h
    refine ⟨[.ref x], ws, rfl, rfl, ?_, fun p ob hp hd => ?_⟩
    · rw [e3.length]
      exact Nat.le_trans hl (by decide)
    · have s1 : Same H (upd H p (.frz ob (.tup ws))) := same_upd hp
      refine ⟨x, p, dx, ws, ss, rfl, s1 _ _ e1, ⟨ob, hd, upd_same⟩, e3.same s1, hl, hs, fun H' b1 b2 => ?_⟩
      exact k H' p (fun b o n e => b1 b o n (s1 _ _ e)) b2 ⟨ob, hd, b1 _ _ (ne_of_none e1 hp).symm upd_same⟩
end
end Cc

/-! summary: what a plan does to all starts. -/
namespace Cc
open PySem PySem.Spec PyProof.Rows L2
structure Sm where
  low : Int
  high : Int
  extra : Int
  goal : Option Int
  turned : Bool
def goalV : Option Int → V
  | none => .non
  | some g => .int g
/-- how many chairs the room that was red at first may have -/
def allowF (c : Int) (t b : Bool) (n : Int) : Int × Int := if b == t then (0, c - n) else (n, c)
def nearF (g a b : Int) : Int := if b < (if a > g then a else g) then b else (if a > g then a else g)
/-- a meeting behind steps that only keep to a range -/
def narrowF (lo hi a b : Int) : Int × Int × Int × Option Int :=
  if a > hi then (hi, hi, a - hi, some a) else if b < lo then (lo, lo, lo - b, some b) else (mx lo a, (if b < hi then b else hi), 0, none)
def smStep (c : Int) (m : Sm) : Stp → Sm
  | .turn => { m with turned := !m.turned }
  | .meet b n => match m.goal with
    | none => let z := narrowF m.low m.high (allowF c m.turned b n).1 (allowF c m.turned b n).2; { m with low := z.1, high := z.2.1, extra := z.2.2.1, goal := z.2.2.2 }
    | some g => { m with extra := m.extra + ab (nearF g (allowF c m.turned b n).1 (allowF c m.turned b n).2 - g), goal := some (nearF g (allowF c m.turned b n).1 (allowF c m.turned b n).2) }
def smSteps (c : Int) (ss : List Stp) : Sm := ss.foldl (smStep c) ⟨0, c, 0, none, false⟩
theorem smSteps_more (c : Int) (ss : List Stp) (s : Stp) : smSteps c (ss ++ [s]) = smStep c (smSteps c ss) s := by
  unfold smSteps
  rw [List.foldl_append]
  rfl
def smEnd (m : Sm) : Sm := if m.low = m.high ∧ m.goal = none then { m with goal := some m.low } else m
def sideF (t : Bool) : Int := if t then -1 else 1
/-- what a summary says of a start, of the carried and the place -/
structure SmOk (c : Int) (m : Sm) : Prop where
  l0 : 0 ≤ m.low
  lh : m.low ≤ m.high
  h1 : m.high ≤ c
  g : ∀ z, m.goal = some z → 0 ≤ z ∧ z ≤ c
  e : m.goal = none → m.extra = 0
def distF (lo hi x : Int) : Int := if x < lo then lo - x else if hi < x then x - hi else 0
def clampF (lo hi x : Int) : Int := if x < lo then lo else if hi < x then hi else x
def SmSays (m : Sm) (x total place : Int) : Prop := total = distF m.low m.high x + m.extra ∧ place = (match m.goal with | none => clampF m.low m.high x | some z => z)
theorem says_start (c x : Int) (h0 : 0 ≤ x) (h1 : x ≤ c) : SmOk c ⟨0, c, 0, none, false⟩ ∧ SmSays ⟨0, c, 0, none, false⟩ x 0 (placeF c 1 x) := by
  refine ⟨⟨Int.le_refl 0, by show 0 ≤ c; omega, Int.le_refl c, (fun z h => nomatch h), fun _ => rfl⟩, ?_, ?_⟩
  · show 0 = distF 0 c x + 0
    unfold distF
    split
    · omega
    · split <;> omega
  · show placeF c 1 x = clampF 0 c x
    unfold placeF clampF
    simp
    split
    · omega
    · split <;> omega
theorem smOk_step {c : Int} {m : Sm} {s : Stp} (h : SmOk c m) (hs : s.ok c) : SmOk c (smStep c m s) := by
  obtain ⟨low, high, extra, goal, turned⟩ := m
  obtain ⟨l0, lh, h1, hg, he⟩ := h
  simp only at l0 lh h1 hg he
  cases s with
  | turn => exact ⟨l0, lh, h1, hg, he⟩
  | meet b n =>
    obtain ⟨n0, n1⟩ := hs
    cases goal with
    | none =>
      simp only [smStep, narrowF, allowF, mx]
      cases b <;> cases turned <;> simp <;> (split <;> first
        | (constructor <;> simp <;> omega)
        | (split <;> (constructor <;> simp <;> omega)))
    | some z =>
      have hz := hg z rfl
      simp only [smStep, nearF, allowF]
      refine ⟨l0, lh, h1, fun y hy => ?_, fun q => nomatch q⟩
      simp only [Option.some.injEq] at hy
      subst hy
      cases b <;> cases turned <;> simp <;> split <;> split <;> omega
theorem side_of (t : Bool) : sideF t = 1 ∨ sideF t = -1 := by
  cases t <;> simp [sideF]
theorem narrow_says {lo hi a b x : Int} (h : lo ≤ hi) (hab : a ≤ b) : distF lo hi x + ab (clampF a b (clampF lo hi x) - clampF lo hi x) = distF (narrowF lo hi a b).1 (narrowF lo hi a b).2.1 x + (narrowF lo hi a b).2.2.1 ∧
    clampF a b (clampF lo hi x) = (match (narrowF lo hi a b).2.2.2 with | none => clampF (narrowF lo hi a b).1 (narrowF lo hi a b).2.1 x | some z => z) := by
  unfold narrowF
  by_cases q1 : a > hi
  · rw [if_pos q1]
    simp only [distF, clampF, ab]
    omega
  · rw [if_neg q1]
    by_cases q2 : b < lo
    · rw [if_pos q2]
      simp only [distF, clampF, ab]
      omega
    · rw [if_neg q2]
      simp only [distF, clampF, ab, mx]
      omega
theorem near_is {g a b : Int} (hab : a ≤ b) : nearF g a b = clampF a b g := by
  unfold nearF clampF
  omega
/-- a meeting moves the place to the nearest that it allows -/
theorem place_allow {c r n : Int} {b t : Bool} (r0 : 0 ≤ r) (r1 : r ≤ c) (n0 : 0 ≤ n) (n1 : n ≤ c) :
    placeF c (sideF t) (stepF c (.meet b n) r).1 = clampF (allowF c t b n).1 (allowF c t b n).2 (placeF c (sideF t) r) ∧ (stepF c (.meet b n) r).2 = ab (placeF c (sideF t) (stepF c (.meet b n) r).1 - placeF c (sideF t) r) ∧ (allowF c t b n).1 ≤ (allowF c t b n).2 := by
  cases b <;> cases t <;> simp [placeF, sideF, stepF, clampF, allowF, mx, ab] <;> omega
theorem says_step {c : Int} {m : Sm} {s : Stp} {x r total : Int} (ok : SmOk c m) (hs : s.ok c) (r0 : 0 ≤ r) (r1 : r ≤ c) (h : SmSays m x total (placeF c (sideF m.turned) r)) :
    SmSays (smStep c m s) x (total + (stepF c s r).2) (placeF c (sideF (smStep c m s).turned) (stepF c s r).1) := by
  obtain ⟨low, high, extra, goal, turned⟩ := m
  obtain ⟨l0, lh, hc1, hg, he⟩ := ok
  simp only at l0 lh hc1 hg he
  obtain ⟨e1, e2⟩ := h
  simp only at e1 e2
  cases s with
  | turn =>
    refine ⟨?_, ?_⟩
    · show total + 0 = distF low high x + extra
      omega
    · refine Eq.trans ?_ e2
      show placeF c (sideF (!turned)) (c - r) = placeF c (sideF turned) r
      cases turned <;> simp [placeF, sideF] <;> omega
  | meet b n =>
    obtain ⟨n0, n1⟩ := hs
    obtain ⟨f1, f2, f3⟩ := place_allow (c := c) (b := b) (t := turned) r0 r1 n0 n1
    cases goal with
    | none =>
      have he0 := he rfl
      subst he0
      simp only at e2
      obtain ⟨g1, g2⟩ := narrow_says (lo := low) (hi := high) (a := (allowF c turned b n).1) (b := (allowF c turned b n).2) (x := x) lh f3
      refine ⟨?_, ?_⟩
      · refine Eq.trans ?_ g1
        rw [f2, f1, e2, e1, Int.add_zero]
      · refine Eq.trans ?_ g2
        show placeF c (sideF turned) (stepF c (.meet b n) r).1 = _
        rw [f1, e2]
    | some z =>
      simp only at e2
      refine ⟨?_, ?_⟩
      · show total + (stepF c (.meet b n) r).2 = distF low high x + (extra + ab (nearF z (allowF c turned b n).1 (allowF c turned b n).2 - z))
        rw [near_is f3, f2, f1, e2, e1, Int.add_assoc]
      · show placeF c (sideF turned) (stepF c (.meet b n) r).1 = nearF z (allowF c turned b n).1 (allowF c turned b n).2
        rw [near_is f3, f1, e2]
theorem snoc_ind {α : Type} {M : List α → Prop} (h0 : M []) (h1 : ∀ l a, M l → M (l ++ [a])) (l : List α) : M l := by
  have q : ∀ k : List α, M k.reverse := fun k => by
    induction k with
    | nil => exact h0
    | cons a k ih =>
      rw [List.reverse_cons]
      exact h1 _ a ih
  have z := q l.reverse
  rw [List.reverse_reverse] at z
  exact z
/-- behind all steps -/
theorem smSteps_says {c x : Int} (x0 : 0 ≤ x) (x1 : x ≤ c) (ss : List Stp) : (∀ s ∈ ss, s.ok c) → SmOk c (smSteps c ss) ∧ SmSays (smSteps c ss) x (stepsF c ss (x, 0)).2 (placeF c (sideF (smSteps c ss).turned) (stepsF c ss (x, 0)).1) := by
  refine snoc_ind (M := fun ss => (∀ s ∈ ss, s.ok c) → SmOk c (smSteps c ss) ∧ SmSays (smSteps c ss) x (stepsF c ss (x, 0)).2 (placeF c (sideF (smSteps c ss).turned) (stepsF c ss (x, 0)).1)) (fun _ => says_start c x x0 x1) (fun us s ih hs => ?_) ss
  have hd : ∀ s ∈ us, s.ok c := fun z h => hs z (List.mem_append_left _ h)
  obtain ⟨ok, sy⟩ := ih hd
  obtain ⟨r0, r1, _⟩ := stepsF_in (c := c) (ss := us) (r := x) (t := 0) hd x0 x1 (Int.le_refl 0)
  have hg := hs s (List.mem_append_right _ List.mem_cons_self)
  rw [smSteps_more, stepsF_one]
  exact ⟨smOk_step ok hg, says_step ok hg r0 r1 sy⟩
theorem smEnd_says {c : Int} {m : Sm} {x total place : Int} (ok : SmOk c m) (h : SmSays m x total place) : SmOk c (smEnd m) ∧ SmSays (smEnd m) x total place ∧ ((smEnd m).low = (smEnd m).high → (smEnd m).goal ≠ none) ∧ (smEnd m).turned = m.turned := by
  obtain ⟨low, high, extra, goal, turned⟩ := m
  obtain ⟨l0, lh, hc1, hg, he⟩ := ok
  simp only at l0 lh hc1 hg he
  obtain ⟨e1, e2⟩ := h
  simp only at e1 e2
  unfold smEnd
  by_cases q : low = high ∧ goal = none
  · simp only [q, and_self, if_true]
    obtain ⟨q1, q2⟩ := q
    subst q1 q2
    simp only at e2
    refine ⟨⟨l0, Int.le_refl _, hc1, fun z hz => ?_, fun h => nomatch h⟩, ⟨e1, ?_⟩, (fun _ h => nomatch h), by first | rfl | trivial⟩
    · cases hz
      exact ⟨l0, hc1⟩
    · rw [e2]
      show clampF low low x = low
      unfold clampF
      omega
  · simp only [q, if_false]
    exact ⟨⟨l0, lh, hc1, hg, he⟩, ⟨e1, e2⟩, fun h1 h2 => q ⟨h1, h2⟩, by first | rfl | trivial⟩
/-- the number of turns -/
def turnsF (ss : List Stp) : Nat := (ss.filter fun s => match s with | .turn => true | .meet _ _ => false).length
theorem turned_is (c : Int) (ss : List Stp) : (smSteps c ss).turned = decide (turnsF ss % 2 = 1) := by
  refine snoc_ind (M := fun ss => (smSteps c ss).turned = decide (turnsF ss % 2 = 1)) rfl (fun us s ih => ?_) ss
  rw [smSteps_more]
  have ef : turnsF (us ++ [s]) = turnsF us + (match s with | .turn => 1 | .meet _ _ => 0) := by
    unfold turnsF
    rw [List.filter_append, List.length_append]
    cases s <;> rfl
  rw [ef]
  cases s with
  | turn =>
    show (!(smSteps c us).turned) = _
    rw [ih]
    by_cases q : turnsF us % 2 = 1
    · rw [decide_eq_true q, decide_eq_false (by simp only; omega)]
      rfl
    · rw [decide_eq_false q, decide_eq_true (by simp only; omega)]
      rfl
  | meet b z =>
    have et : (smStep c (smSteps c us) (.meet b z)).turned = (smSteps c us).turned := by
      unfold smStep
      cases (smSteps c us).goal <;> rfl
    rw [et, ih]
    rfl
end Cc

/-! The play of steps one by one; three more rules. -/
namespace Cc
open PySem PySem.Spec PyProof.Rows L2
def carryF (c : Int) : List Stp → Int → List Int
  | [], _ => []
  | s :: ss, r => (stepF c s r).2 :: carryF c ss (stepF c s r).1
theorem stepsF_fst (c : Int) : ∀ (ss : List Stp) (r t u : Int), (stepsF c ss (r, t)).1 = (stepsF c ss (r, u)).1
  | [], _, _, _ => rfl
  | s :: ss, r, t, u => stepsF_fst c ss (stepF c s r).1 _ _
theorem carryF_one (c : Int) (s : Stp) : ∀ (ss : List Stp) (r : Int), carryF c (ss ++ [s]) r = carryF c ss r ++ [(stepF c s (stepsF c ss (r, 0)).1).2]
  | [], r => rfl
  | z :: ss, r => by
    show (stepF c z r).2 :: carryF c (ss ++ [s]) (stepF c z r).1 = (stepF c z r).2 :: (carryF c ss (stepF c z r).1 ++ [(stepF c s (stepsF c ss ((stepF c z r).1, 0 + (stepF c z r).2)).1).2])
    rw [carryF_one c s ss (stepF c z r).1, stepsF_fst c ss (stepF c z r).1 0 (0 + (stepF c z r).2)]
theorem carryF_len (c : Int) : ∀ (ss : List Stp) (r : Int), (carryF c ss r).length = ss.length
  | [], _ => rfl
  | s :: ss, r => by
    show (carryF c ss (stepF c s r).1).length + 1 = ss.length + 1
    rw [carryF_len c ss]
theorem carryF_sum (c : Int) : ∀ (ss : List Stp) (r : Int), (carryF c ss r).sum = (stepsF c ss (r, 0)).2
  | [], _ => rfl
  | s :: ss, r => by
    show ((stepF c s r).2 :: carryF c ss (stepF c s r).1).sum = (stepsF c ss ((stepF c s r).1, 0 + (stepF c s r).2)).2
    rw [List.sum_cons, carryF_sum c ss, stepsF_add c ss (stepF c s r).1 (0 + (stepF c s r).2), Int.zero_add]
theorem nuMax3_int (a b z : Int) : nuMax3 (.int a) (.int b) (.int z) = some (.int (if (if a < b then b else a) < z then z else (if a < b then b else a))) := by
  by_cases h : a < b
  · by_cases h2 : b < z <;> simp [nuMax3, nuMax2, nuLt, nuCB, h, h2]
  · by_cases h2 : a < z <;> simp [nuMax3, nuMax2, nuLt, nuCB, h, h2]
/-- a <= b <= c <= d, a test -/
def tChain3 (r1 r2 r3 : R2) (ta tb tc td : TE) : TT := fun σ H Q => ta σ H fun x H1 => tb σ H1 fun y H2 => r1 x y H2 fun z H3 => ∃ k, z = .bl k ∧
  (if k = true then tc σ H3 fun x2 H4 => r2 y x2 H4 fun z2 H5 => ∃ k2, z2 = .bl k2 ∧ (if k2 = true then td σ H5 fun x3 H6 => r3 x2 x3 H6 fun z3 H7 => ∃ k3, z3 = .bl k3 ∧ Q k3 H7 else Q false H5) else Q false H3)
section
variable {X : Cx} {a b c d : Expr} {ta tb tc td : TE} {pos : Pos}
theorem pt_chain3 {o1 o2 o3 : CmpOp} {r1 r2 r3 : R2} (h1 : OpR X (compareOp o1) r1) (h2 : OpR X (compareOp o2) r2) (h3 : OpR X (compareOp o3) r3) (ha : PE X a ta) (hb : PE X b tb) (hc : PE X c tc) (hd : PE X d td)
    (hm : lastMarks [o1, o2, o3] [b, c, d] = false := by with_unfolding_all rfl) : PT X (.Compare a [o1, o2, o3] [b, c, d] pos) (tChain3 r1 r2 r3 ta tb tc td) := by
  refine ⟨fun pn s sg Hh Qq J h => isTrue_chain ?_ hm⟩
  refine thn (ha.run pn s sg Hh _ J h) fun v1 z1 ⟨x1, G1, J1, e1, p1⟩ => test_link ?_
  refine thn (hb.run pn z1 sg G1 _ J1 p1) fun v2 z2 ⟨x2, G2, J2, e2, p2⟩ => ?_
  refine thn (h1 pn z2 sg G2 x1 x2 v1 v2 _ J2 e1 e2 p2) fun v3 z3 ⟨y1, G3, J3, e3, k1, f1, p3⟩ => ?_
  subst f1
  cases e3
  refine wpAny_truthy_bool ?_
  cases k1 with
  | false => exact ite_ff ⟨G3, J3, p3⟩
  | true =>
    refine ite_tt (test_link ?_)
    refine thn (hc.run pn z3 sg G3 _ J3 p3) fun v4 z4 ⟨x3, G4, J4, e4, p4⟩ => ?_
    refine thn (h2 pn z4 sg G4 x2 x3 v2 v4 _ J4 e2 e4 p4) fun v5 z5 ⟨y2, G5, J5, e5, k2, f2, p5⟩ => ?_
    subst f2
    cases e5
    refine wpAny_truthy_bool ?_
    cases k2 with
    | false => exact ite_ff ⟨G5, J5, p5⟩
    | true =>
      refine ite_tt (test_last ?_)
      refine thn (hd.run pn z5 sg G5 _ J5 p5) fun v6 z6 ⟨x4, G6, J6, e6, p6⟩ => ?_
      refine thn (h3 pn z6 sg G6 x3 x4 v4 v6 _ J6 e4 e6 p6) fun v7 z7 ⟨y3, G7, J7, e7, k3, f3, p7⟩ => ?_
      subst f3
      cases e7
      exact wpAny_truthy_bool ⟨G7, J7, p7⟩
end
end Cc

/-! Many rounds: pairs of rounds are alike from the third on; the steps of all rounds one after another. -/
namespace Cc
open PySem PySem.Spec PyProof.Rows L2
theorem roundsF_plus (c : Int) (ss : List Stp) : ∀ (m n : Nat) (x : Int × Int), roundsF c ss (m + n) x = roundsF c ss n (roundsF c ss m x)
  | 0, n, x => by
    rw [Nat.zero_add]
    rfl
  | m + 1, n, x => by
    rw [Nat.succ_add]
    exact roundsF_plus c ss m n (stepsF c ss x)
theorem roundsF_sum (c : Int) (ss : List Stp) : ∀ (n : Nat) (r t : Int), roundsF c ss n (r, t) = ((roundsF c ss n (r, 0)).1, t + (roundsF c ss n (r, 0)).2)
  | 0, r, t => by
    show (r, t) = (r, t + 0)
    rw [Int.add_zero]
  | n + 1, r, t => by
    rw [roundsF_succ, roundsF_succ, roundsF_sum c ss n r t, stepsF_add c ss _ (t + _), stepsF_add c ss _ (roundsF c ss n (r, 0)).2]
    simp only [Prod.mk.injEq, true_and]
    omega
theorem pair_is (c : Int) (ss : List Stp) (x : Int × Int) : stepsF c (ss ++ ss) x = roundsF c ss 2 x := stepsF_app c ss ss x
theorem turnsF_pair (ss : List Stp) : turnsF (ss ++ ss) % 2 = 0 := by
  unfold turnsF
  rw [List.filter_append, List.length_append]
  omega
/-- a pair of rounds, done again, leaves the room as it is -/
theorem pair_twice {c x : Int} {ss : List Stp} (hs : ∀ s ∈ ss, s.ok c) (x0 : 0 ≤ x) (x1 : x ≤ c) : (stepsF c (ss ++ ss) ((stepsF c (ss ++ ss) (x, 0)).1, 0)).1 = (stepsF c (ss ++ ss) (x, 0)).1 := by
  have hp : ∀ s ∈ ss ++ ss, s.ok c := fun s h => (List.mem_append.mp h).elim (hs s) (hs s)
  obtain ⟨y0, y1, _⟩ := stepsF_in (t := 0) hp x0 x1 (Int.le_refl 0)
  obtain ⟨ok, _, e1⟩ := smSteps_says x0 x1 (ss ++ ss) hp
  obtain ⟨_, _, e2⟩ := smSteps_says y0 y1 (ss ++ ss) hp
  have ht : (smSteps c (ss ++ ss)).turned = false := by
    rw [turned_is, turnsF_pair]
    rfl
  rw [ht] at e1 e2
  generalize (stepsF c (ss ++ ss) ((stepsF c (ss ++ ss) (x, 0)).1, 0)).1 = z at *
  generalize (stepsF c (ss ++ ss) (x, 0)).1 = y at *
  generalize smSteps c (ss ++ ss) = m at *
  obtain ⟨low, high, extra, goal, turned⟩ := m
  have lh := ok.lh
  simp only at e1 e2 lh
  cases goal with
  | none =>
    simp [placeF, sideF, clampF] at e1 e2
    omega
  | some g =>
    simp [placeF, sideF] at e1 e2
    omega
/-- from a number that a pair leaves: p pairs -/
theorem pairs_all {c y : Int} {ss : List Stp} (h : (stepsF c (ss ++ ss) (y, 0)).1 = y) : ∀ p : Nat, roundsF c ss (2 * p) (y, 0) = (y, p * (stepsF c (ss ++ ss) (y, 0)).2)
  | 0 => by
    show (y, 0) = (y, ((0 : Nat) : Int) * _)
    simp
  | p + 1 => by
    have e : 2 * (p + 1) = 2 * p + 2 := by omega
    rw [e, roundsF_plus, pairs_all h p, ← pair_is, stepsF_add, h]
    simp only [Prod.mk.injEq, true_and]
    rw [Int.natCast_succ, Int.add_mul, Int.one_mul]
theorem rounds_fix {c r : Int} {ss : List Stp} (hs : ∀ s ∈ ss, s.ok c) (r0 : 0 ≤ r) (r1 : r ≤ c) (m : Nat) : (stepsF c (ss ++ ss) ((roundsF c ss (m + 2) (r, 0)).1, 0)).1 = (roundsF c ss (m + 2) (r, 0)).1 := by
  obtain ⟨a0, a1, _⟩ := roundsF_in (n := m) (t := 0) hs r0 r1 (Int.le_refl 0)
  have e : (roundsF c ss (m + 2) (r, 0)).1 = (stepsF c (ss ++ ss) ((roundsF c ss m (r, 0)).1, 0)).1 := by
    rw [roundsF_plus, pair_is, roundsF_sum c ss 2 (roundsF c ss m (r, 0)).1 (roundsF c ss m (r, 0)).2]
  rw [e]
  exact pair_twice hs a0 a1
/-- m + 2 rounds, then p pairs -/
theorem rounds_pairs {c r : Int} {ss : List Stp} (hs : ∀ s ∈ ss, s.ok c) (r0 : 0 ≤ r) (r1 : r ≤ c) (m p : Nat) :
    roundsF c ss (m + 2 + 2 * p) (r, 0) = ((roundsF c ss (m + 2) (r, 0)).1, (roundsF c ss (m + 2) (r, 0)).2 + p * (stepsF c (ss ++ ss) ((roundsF c ss (m + 2) (r, 0)).1, 0)).2) := by
  rw [roundsF_plus c ss (m + 2), roundsF_sum c ss (2 * p) (roundsF c ss (m + 2) (r, 0)).1 (roundsF c ss (m + 2) (r, 0)).2, pairs_all (rounds_fix hs r0 r1 m)]
theorem afterF_is {c r : Int} {ss : List Stp} (hs : ∀ s ∈ ss, s.ok c) (r0 : 0 ≤ r) (r1 : r ≤ c) (n : Nat) : afterF c ss r n = roundsF c ss n (r, 0) := rfl
/-- the code's own way: two or three rounds singly, the rest in pairs all alike -/
theorem few_is {c r : Int} {ss : List Stp} (hs : ∀ s ∈ ss, s.ok c) (r0 : 0 ≤ r) (r1 : r ≤ c) {n : Nat} (h : 2 ≤ n) :
    afterF c ss r n = ((stepsF c (ss ++ ss) ((roundsF c ss (2 + n % 2) (r, 0)).1, 0)).1, (roundsF c ss (2 + n % 2) (r, 0)).2 + ((n - (2 + n % 2)) / 2 : Nat) * (stepsF c (ss ++ ss) ((roundsF c ss (2 + n % 2) (r, 0)).1, 0)).2) := by
  have e : n = n % 2 + 2 + 2 * ((n - (2 + n % 2)) / 2) := by omega
  have h1 := rounds_pairs hs r0 r1 (n % 2) ((n - (2 + n % 2)) / 2)
  rw [← e] at h1
  unfold afterF
  rw [h1, Nat.add_comm 2 (n % 2), rounds_fix hs r0 r1]
/-- two parts of the rounds -/
theorem rounds_parts (c : Int) (ss : List Stp) (r : Int) (m n : Nat) : (roundsF c ss (m + n) (r, 0)).1 = (roundsF c ss n ((roundsF c ss m (r, 0)).1, 0)).1 ∧ (roundsF c ss (m + n) (r, 0)).2 = (roundsF c ss m (r, 0)).2 + (roundsF c ss n ((roundsF c ss m (r, 0)).1, 0)).2 := by
  rw [roundsF_plus, roundsF_sum c ss n (roundsF c ss m (r, 0)).1 (roundsF c ss m (r, 0)).2]
  exact ⟨rfl, rfl⟩
/-- each further pair carries what the third and the fourth round carry -/
theorem rounds_even {c r : Int} {ss : List Stp} (hs : ∀ s ∈ ss, s.ok c) (r0 : 0 ≤ r) (r1 : r ≤ c) (p : Nat) :
    (roundsF c ss (2 * p + 2) (r, 0)).2 = (roundsF c ss 2 (r, 0)).2 + p * ((roundsF c ss 4 (r, 0)).2 - (roundsF c ss 2 (r, 0)).2) := by
  have e : 2 * p + 2 = 0 + 2 + 2 * p := by omega
  have h1 := rounds_pairs hs r0 r1 0 p
  have h2 := rounds_pairs hs r0 r1 0 1
  simp only [Nat.zero_add] at h1 h2
  rw [e, Nat.zero_add, h1, show 4 = 2 + 2 * 1 from rfl, h2]
  simp only
  congr 1
  rw [Int.natCast_one, Int.one_mul, Int.add_comm (roundsF c ss 2 (r, 0)).2, Int.add_sub_cancel]
/-! ### the steps of all rounds -/
def cycF (ss : List Stp) (k n : Nat) : List Stp := (List.range n).map fun i => ss.getD ((k + i) % ss.length) .turn
theorem cycF_succ (ss : List Stp) (k n : Nat) : cycF ss k (n + 1) = cycF ss k n ++ [ss.getD ((k + n) % ss.length) .turn] := by
  unfold cycF
  rw [List.range_succ, List.map_append]
  rfl
theorem cycF_len (ss : List Stp) (k n : Nat) : (cycF ss k n).length = n := by
  unfold cycF
  simp only [List.length_range, List.length_map]
theorem getD_in {ss : List Stp} {i : Nat} (h : i < ss.length) : ss.getD i .turn = ss[i] := by simp [List.getD, h]
theorem getD_out {ss : List Stp} {i : Nat} (h : ss.length ≤ i) : ss.getD i .turn = .turn := by simp [List.getD, h]
theorem cycF_ok {c : Int} {ss : List Stp} (hs : ∀ s ∈ ss, s.ok c) (k n : Nat) : ∀ s ∈ cycF ss k n, s.ok c := fun s h => by
  obtain ⟨i, _, rfl⟩ := List.mem_map.mp h
  by_cases q : (k + i) % ss.length < ss.length
  · rw [getD_in q]
    exact hs _ (List.getElem_mem q)
  · rw [getD_out (by omega)]
    trivial
theorem rep_get {ss : List Stp} : ∀ (k i : Nat), i < k * ss.length → (List.replicate k ss).flatten[i]? = some (ss.getD (i % ss.length) .turn)
  | 0, i, h => by omega
  | k + 1, i, h => by
    rw [List.replicate_succ (n := k), List.flatten_cons]
    by_cases q : i < ss.length
    · rw [List.getElem?_append_left q, Nat.mod_eq_of_lt q, List.getElem?_eq_getElem q, getD_in q]
    · have h1 : (k + 1) * ss.length = k * ss.length + ss.length := Nat.succ_mul k ss.length
      rw [List.getElem?_append_right (by omega), rep_get k (i - ss.length) (by omega)]
      congr 2
      rw [Nat.mod_eq_sub_mod (by omega : i ≥ ss.length)]
theorem rep_take {ss : List Stp} {k n : Nat} (h : n ≤ k * ss.length) : ((List.replicate k ss).flatten).take n = cycF ss 0 n := by
  refine List.ext_getElem? fun i => ?_
  by_cases q : i < n
  · rw [List.getElem?_take_of_lt q, rep_get k i (by omega)]
    unfold cycF
    rw [List.getElem?_map, List.getElem?_range q]
    show _ = some (ss.getD ((0 + i) % ss.length) .turn)
    rw [Nat.zero_add]
  · rw [List.getElem?_eq_none (by rw [List.length_take]; omega), List.getElem?_eq_none (by rw [cycF_len]; omega)]
theorem Steps.rep {H : Hp} {vs : List V} {ss : List Stp} (h : Steps H vs ss) : ∀ k : Nat, Steps H (List.replicate k vs).flatten (List.replicate k ss).flatten
  | 0 => .nil
  | k + 1 => by
    simp only [List.replicate_succ, List.flatten_cons]
    exact h.append (Steps.rep h k)
theorem eqv_selfs (ns : List Int) : PyData.eqv (.list (ns.map PyData.int)) (.list (ns.map PyData.int)) = true := by
  have q : ∀ ns : List Int, PyData.eqvAll (ns.map PyData.int) (ns.map PyData.int) = true := fun ns => by
    induction ns with
    | nil => simp [PyData.eqvAll]
    | cons a ns ih => simp [PyData.eqvAll, PyData.eqv, ih]
  simp [PyData.eqv, q ns]
end Cc

/-! A rule of our own: a set of ints by two clauses, {e for a in xs for b in ys if t}. -/
namespace Cc
open PySem PySem.Spec PyProof.Rows L2
/-- the comprehension: the first clause has no test -/
abbrev scE (el ta ia tb ib : Expr) (fb : List Expr) (sc : Scope) (ps : Pos) : Expr := .SetComp el [⟨ta, ia, [], 0⟩, ⟨tb, ib, fb, 0⟩] sc ps
section
variable {pr : Program} {ww : World} {A : Around} {R : Result → Shared → Prop} {st : Shared} {el ta ia tb ib : Expr} {fb : List Expr} {sc : Scope} {ps : Pos} {it ac : Value} {en : Env}
theorem noX {α : Type} {M : Model} {t : Sem α} {G : α → Shared → Prop} {E : Value → Shared → Prop} (h : wpAny M A t G (fun _ _ => False) st) : wpAny M A t G E st := wpAny_mono h (fun _ _ q => q) fun _ _ q => q.elim
theorem sc_outer (hf : ∀ x, foldedSetIterable ib en x = pure x) (J : Nat → Shared → Prop)
    (go : ∀ n z, J n z → wpAny (model pr ww) A (pyNext it) (fun r z1 => match r with
      | none => R (.ok .next) z1
      | some v => wpAny (model pr ww) A (letOwnedTupleGo ta it v) (fun _ z2 => wpAny (model pr ww) A (assign ta en v) (fun _ z3 => wpAny (model pr ww) A (eval ib en) (fun x z4 => wpAny (model pr ww) A (pyIter x) (fun i2 z5 =>
          codeAny (model pr ww) A (.compStart (scE el ta ia tb ib fb sc ps) 1 i2 ac en) (fun r z6 => match r with | .ok _ => ∃ m, m < n ∧ J m z6 | .error _ => False) z5)
          (fun _ _ => False) z4) (fun _ _ => False) z3) (fun _ _ => False) z2) (fun _ _ => False) z1) (fun _ _ => False) z) (n : Nat) (h : J n st) :
    codeAny (model pr ww) A (.compLoop (scE el ta ia tb ib fb sc ps) 0 it ac en) R st := by
  refine codeAny_loop rfl J (fun n z hz => ?_) n h
  show wpAny _ A ((compTurn (scE el ta ia tb ib fb sc ps) 0 it ac en).onRaise (fun x => do noteFrame x en; theTreesLotGoes x)) _ _ z
  refine wpAny_noted ?_
  have tree : compTurn (scE el ta ia tb ib fb sc ps) 0 it ac en = (do
      standAt ia.pos
      match ← pyNext it with
      | none => pure (.done .next)
      | some v =>
        letOwnedTupleGo ta it v
        assign ta en v
        let mut good := true
        for c in ([] : List Expr) do
          if good then good ← isTrue c en (eval c en)
        if good then
          let x ← eval ib en
          standAt ib.pos
          let x ← foldedSetIterable ib en x
          let _ ← runOwn (.compStart (scE el ta ia tb ib fb sc ps) 1 (← holding [x] (pyIter x)) ac en) en
        again (.compLoop (scE el ta ia tb ib fb sc ps) 0 it ac en)) := by rfl
  rw [tree]
  refine wpAny_bind (wpAny_standAt (wpAny_bind (wpAny_mono (go n z hz) (fun r z1 h1 => ?_) fun _ _ q => q.elim)))
  cases r with
  | none => exact wpAny_pure h1
  | some v =>
    refine wpAny_bind (wpAny_mono h1 (fun _ z2 h2 => wpAny_bind (wpAny_mono h2 (fun _ z3 h3 => ?_) fun _ _ q => q.elim)) fun _ _ q => q.elim)
    refine wpAny_bind (wpAny_of_eq (a := true) (by rfl) ?_)
    refine wpAny_bind (wpAny_mono h3 (fun x z4 h4 => ?_) fun _ _ q => q.elim)
    refine wpAny_bind (wpAny_standAt (wpAny_bind (wpAny_of_eq (hf x) (wpAny_bind (wpAny_holding (wpAny_mono h4 (fun i2 z5 h5 => ?_) fun _ _ q => q.elim))))))
    refine wpAny_bind (wpAny_runOwn (M := model pr ww) ?_)
    rw [Around.mark_none]
    refine codeAny_mono h5 fun r z6 h6 => ?_
    cases r with
    | error e => exact h6.elim
    | ok f => first
      | exact wpAny_pure ⟨rfl, h6⟩
      | exact wpAny_bind (wpAny_pure (wpAny_pure ⟨rfl, h6⟩))
theorem sc_inner (J : Nat → Shared → Prop)
    (go : ∀ n z, J n z → wpAny (model pr ww) A (pyNext it) (fun r z1 => match r with
      | none => R (.ok .next) z1
      | some v => wpAny (model pr ww) A (letOwnedTupleGo tb it v) (fun _ z2 => wpAny (model pr ww) A (assign tb en v) (fun _ z3 =>
          wpAny (model pr ww) A (forIn fb true fun c r => if r = true then do let ok ← isTrue c en (eval c en); pure (ForInStep.yield ok) else pure (ForInStep.yield r)) (fun good z4 =>
            if good = true then wpAny (model pr ww) A (eval el en) (fun x z5 => wpAny (model pr ww) A (call (.builtin "set.add") [ac, x]) (fun _ z6 => ∃ m, m < n ∧ J m z6) (fun _ _ => False) z5) (fun _ _ => False) z4
            else ∃ m, m < n ∧ J m z4) (fun _ _ => False) z3) (fun _ _ => False) z2) (fun _ _ => False) z1) (fun _ _ => False) z) (n : Nat) (h : J n st) :
    codeAny (model pr ww) A (.compLoop (scE el ta ia tb ib fb sc ps) 1 it ac en) R st := by
  refine codeAny_loop rfl J (fun n z hz => ?_) n h
  show wpAny _ A ((compTurn (scE el ta ia tb ib fb sc ps) 1 it ac en).onRaise (fun x => do noteFrame x en; theTreesLotGoes x)) _ _ z
  refine wpAny_noted ?_
  have tree : compTurn (scE el ta ia tb ib fb sc ps) 1 it ac en = (do
      standAt ib.pos
      match ← pyNext it with
      | none => pure (.done .next)
      | some v =>
        letOwnedTupleGo tb it v
        assign tb en v
        let mut good := true
        for c in fb do
          if good then good ← isTrue c en (eval c en)
        if good then
          (do let v ← eval el en; standAt el.pos; let _ ← call (.builtin "set.add") [ac, v])
        again (.compLoop (scE el ta ia tb ib fb sc ps) 1 it ac en)) := by rfl
  rw [tree]
  refine wpAny_bind (wpAny_standAt (wpAny_bind (wpAny_mono (go n z hz) (fun r z1 h1 => ?_) fun _ _ q => q.elim)))
  cases r with
  | none => exact wpAny_pure h1
  | some v =>
    refine wpAny_bind (wpAny_mono h1 (fun _ z2 h2 => wpAny_bind (wpAny_mono h2 (fun _ z3 h3 => ?_) fun _ _ q => q.elim)) fun _ _ q => q.elim)
    refine wpAny_bind (wpAny_mono h3 (fun good z4 h4 => ?_) fun _ _ q => q.elim)
    cases good with
    | false => exact wpAny_pure ⟨rfl, h4⟩
    | true => exact wpAny_bind (wpAny_bind (wpAny_mono h4 (fun x z5 h5 => wpAny_bind (wpAny_standAt (wpAny_bind (wpAny_mono h5 (fun _ z6 h6 => wpAny_pure (wpAny_pure ⟨rfl, h6⟩)) fun _ _ q => q.elim)))) fun _ _ q => q.elim))
/-- the second clause begins -/
theorem sc_begin (h0 : codeAny (model pr ww) A (.compLoop (scE el ta ia tb ib fb sc ps) 1 it ac en) R st)
    (h : wpAny (model pr ww) A (pyIter it) (fun i2 z => codeAny (model pr ww) A (.compLoop (scE el ta ia tb ib fb sc ps) 1 i2 ac en) R z) (fun _ _ => False) st) :
    codeAny (model pr ww) A (.compStart (scE el ta ia tb ib fb sc ps) 1 it ac en) R st := by
  refine codeAny_of_tree ?_
  show wpAny _ _ ((compStart (scE el ta ia tb ib fb sc ps) 1 it ac en).onRaise (fun x => do noteFrame x en; standAt theWindowsPlace)) _ _ st
  refine wpAny_notedAt ?_
  unfold compStart
  show wpAny _ _ (ask >>= _) _ _ st
  apply wpAny_bind; refine wpAny_askSetting (wpAny_ite ?_)
  split
  · first
      | exact wpAny_pure ⟨rfl, h0⟩
      | exact wpAny_bind (wpAny_pure (wpAny_pure ⟨rfl, h0⟩))
  · apply wpAny_bind; refine wpAny_rule ?_
    show wpAny _ _ (standAt ib.pos >>= _) _ _ st
    exact wpAny_bind (wpAny_standAt (wpAny_bind (wpAny_mono h (fun i2 z q => wpAny_pure ⟨rfl, q⟩) fun _ _ q => q.elim)))
end
/-- its reading: D the new set; behind the first clause's store the second source's own loop, from which Nx is reached -/
def tSc2 (w : World) (wi : TI) (g : TG) (wi1 : TI) (g1 : TG) (tt1 : TT) (te : TE) (vs vs1 : List Nat) : TE := fun sg G Q => wi sg G fun J G1 => ∀ D, G1 D = none →
  ∃ W : Nat → Nat → Hp → Prop, (∃ m, W 0 m (upd G1 D (SetO w D (fun _ => false) 0))) ∧ ∀ i m G, W i m G →
    (J.stop i G ∧ Q (.ref D) G) ∨ (J.go i G ∧ ∃ Nx : Hp → Prop, (∀ G', Nx G' → ∃ m', m' < m ∧ W (i + 1) m' G') ∧ ∀ x G', J.yld i G x G' →
      g x (wipe sg vs) G' fun sg2 G2 => wipe sg2 vs = wipe sg vs ∧ wi1 sg2 G2 fun J1 G3 => ∃ W1 : Nat → Nat → Hp → Prop, (∃ m, W1 0 m G3) ∧ ∀ j k G, W1 j k G →
        (J1.stop j G ∧ Nx G) ∨ (J1.go j G ∧ ∃ Ny : Hp → Prop, (∀ G', Ny G' → ∃ k', k' < k ∧ W1 (j + 1) k' G') ∧ ∀ x G', J1.yld j G x G' →
          g1 x (wipe sg2 vs1) G' fun sg3 G4 => wipe sg3 vs1 = wipe sg2 vs1 ∧ tt1 sg3 G4 fun b G5 =>
            if b = true then te sg3 G5 fun y G6 => ∃ (c : Int) (S : Int → Bool) (n : Nat), y = .int c ∧ G6 D = some (SetO w D S n) ∧ n + 1 < scanBound ∧ Ny (upd G6 D (SetO w D (fun j => S j || decide (j = c)) (if S c = true then n else n + 1))) else Ny G5))
section
variable {X : Cx}
theorem pe_sc2 {el ta ia tb ib : Expr} {fb : List Expr} {sc : Scope} {own : List (Str × Nat)} {vs1 : List Nat} {ps : Pos} {wi wi1 : TI} {g g1 : TG} {tt1 : TT} {te : TE} (hc : X.calm = true) (hN : X.N.Nodup) (hi : PI X ta ia wi) (ok : BlkOk X.N X.env.scope sc own) (hv : ∀ i ∈ vs1, i ∈ own.map (·.2))
    (hg : ∀ (s : Shared) (H : Hp) (C : Addr) (cl : List (Str × Addr)) (fp : List Addr), PG (X.blk s H sc (compEnvC sc cl C X.env) fp) ta g)
    (hi1 : ∀ (s : Shared) (H : Hp) (C : Addr) (cl : List (Str × Addr)) (fp : List Addr), PI (X.blk s H sc (compEnvC sc cl C X.env) fp) tb ib wi1)
    (hg1 : ∀ (s : Shared) (H : Hp) (C : Addr) (cl : List (Str × Addr)) (fp : List Addr), PG (X.blk s H sc (compEnvC sc cl C X.env) fp) tb g1)
    (ht1 : ∀ (s : Shared) (H : Hp) (C : Addr) (cl : List (Str × Addr)) (fp : List Addr), PTs (X.blk s H sc (compEnvC sc cl C X.env) fp) fb tt1)
    (he : ∀ (s : Shared) (H : Hp) (C : Addr) (cl : List (Str × Addr)) (fp : List Addr), PE (X.blk s H sc (compEnvC sc cl C X.env) fp) el te)
    (hs : ∀ x, foldedSetIterable ia X.env x = pure x := by intro _; rfl) (hs1 : ∀ env x, foldedSetIterable ib env x = pure x := by intro _ _; rfl) :
    PE X (scE el ta ia tb ib fb sc ps) (tSc2 X.w wi g wi1 g1 tt1 te (own.map (·.2)) vs1) := by
  refine ⟨fun pz z0 sg G0 Qq K0 h => ?_⟩
  rw [PpSet.eval_SetComp]
  have frees : ∀ y ∈ sc.names, y.2 = .free → ∃ c, X.env.cells.lookup y.1 = some c := fun y hy e => K0.ok.has _ ((ok.free y hy e).elim (fun a => .inl a) fun a => .inr a)
  refine wpAny_comprehension_free (use := none) rfl hs (closure_ok frees) ok.kind (fun y hy e => (ok.uniq y hy).trans (congrArg some e)) (thn (hi.run pz z0 sg G0 _ K0 h) fun _ z1 h1 => thn h1 fun iv z2 h2 => ?_)
  obtain ⟨it, fp, tn, Jt, G2, rfl, K2, T, t2, f2, q⟩ := h2
  refine PpSet.newSet_ok (newEnv_comp ?_)
  -- the new set, at D
  obtain ⟨D, hD⟩ : ∃ D, D = z2.heap.objs.size := ⟨_, rfl⟩
  rw [← hD]
  have freeD : G2 D = none := K2.hok.fresh (Nat.le_of_eq hD.symm)
  obtain ⟨W, ⟨m0, w0⟩, turn⟩ := q D freeD
  obtain ⟨z3, hz3⟩ : ∃ z3 : Shared, z3 = { z2 with heap := z2.heap.push { cls := .type "set", dict := none, data := .set #[] 0 (.fresh 0 0 (!X.w.params.followText "set-order")) } } := ⟨_, rfl⟩
  have p3 : z3.heap = z2.heap.push { cls := .type "set", dict := none, data := .set #[] 0 (.fresh 0 0 (!X.w.params.followText "set-order")) } := by rw [hz3]
  have keep3 : ∀ b o, z2.heap.get? b = some o → z3.heap.get? b = some o := fun b o e => by
    rw [p3]
    exact Heap.get?_push_of_some (h := z2.heap) _ e
  have K3 : Inv X pz sg (upd G2 D (SetO X.w D (fun _ => false) 0)) z3 := by
    rw [hz3]
    exact K2.laid (t' := z2.toks) (fun b o e => Heap.get?_push_of_some _ e) (Nat.le_of_eq hD.symm) (hD ▸ setO_new (setR_fresh X.w))
  have old : ∀ b ∈ fp, b < z2.heap.objs.size := fun b hb => (T.obj _ _ t2 b hb).elim fun _ e => Heap.lt_size e.1
  have f3 : ∀ b ∈ fp, FpOk X pz (upd G2 D (SetO X.w D (fun _ => false) 0)) b ∧ b < z3.heap.objs.size := fun b hb =>
    ⟨⟨by rw [upd_ne (by rw [hD]; exact Nat.ne_of_lt (old b hb))]; exact (f2 b hb).1, (f2 b hb).2⟩, by rw [p3, Heap.size_push]; exact Nat.lt_succ_of_lt (old b hb)⟩
  have K4 := block_start K3 ok hN f3
  have nf : ∀ b ∈ fp, upd G2 D (SetO X.w D (fun _ => false) 0) b = none := fun b hb => (f3 b hb).1.1
  -- the block's context
  have Bg := hg z3 (upd G2 D (SetO X.w D (fun _ => false) 0)) z3.heap.objs.size (cellsFrom (z3.heap.objs.size + 1) sc.names (cloFrom X.env.cells sc.names [])) fp
  have Bi := hi1 z3 (upd G2 D (SetO X.w D (fun _ => false) 0)) z3.heap.objs.size (cellsFrom (z3.heap.objs.size + 1) sc.names (cloFrom X.env.cells sc.names [])) fp
  have Bh := hg1 z3 (upd G2 D (SetO X.w D (fun _ => false) 0)) z3.heap.objs.size (cellsFrom (z3.heap.objs.size + 1) sc.names (cloFrom X.env.cells sc.names [])) fp
  have Bt := ht1 z3 (upd G2 D (SetO X.w D (fun _ => false) 0)) z3.heap.objs.size (cellsFrom (z3.heap.objs.size + 1) sc.names (cloFrom X.env.cells sc.names [])) fp
  have Be := he z3 (upd G2 D (SetO X.w D (fun _ => false) 0)) z3.heap.objs.size (cellsFrom (z3.heap.objs.size + 1) sc.names (cloFrom X.env.cells sc.names [])) fp
  have goal : codeAny (model X.prog X.w) X.A (.compStart (scE el ta ia tb ib fb sc ps) 0 (.ref it) (.ref D) (compEnvC sc (cellsFrom (z3.heap.objs.size + 1) sc.names (cloFrom X.env.cells sc.names [])) z3.heap.objs.size X.env))
      (compPost (model X.prog X.w) X.A X.xe none (EP X pz sg Qq) (.ref D) z3.heap.objs.size) { z3 with heap := pushCells (z3.heap.push { cls := .type "dict", data := .dict #[] }) sc.names } := by
    obtain ⟨ce, hce⟩ : ∃ ce, ce = compEnvC sc (cellsFrom (z3.heap.objs.size + 1) sc.names (cloFrom X.env.cells sc.names [])) z3.heap.objs.size X.env := ⟨_, rfl⟩
    rw [← hce] at K4 Bg Bi Bh Bt Be ⊢
    have lc : ce.locals = z3.heap.objs.size := by rw [hce]; rfl
    obtain ⟨G3, hG3⟩ : ∃ G3, G3 = upd G2 D (SetO X.w D (fun _ => false) 0) := ⟨_, rfl⟩
    rw [← hG3] at K3 K4 Bg Bi Bh Bt Be w0 f3
    have nf3 : ∀ b ∈ fp, G3 b = none := fun b hb => (f3 b hb).1.1
    obtain ⟨z4, hz4⟩ : ∃ z4 : Shared, z4 = { z3 with heap := pushCells (z3.heap.push { cls := .type "dict", data := .dict #[] }) sc.names } := ⟨_, rfl⟩
    rw [← hz4] at K4 ⊢
    have t4 : tn 0 z4.heap := T.keep _ _ _ t2 fun b _ o e => by
      rw [hz4]
      exact pushCells_keeps _ _ _ _ (Heap.get?_push_of_some _ (keep3 b o e))
    -- the iterator's objects stay untracked
    have fpk : ∀ {sg' : L2.St} {G' : Hp} {z' : Shared}, Inv (X.blk z3 G3 sc ce fp) [] sg' G' z' → (∀ b ∈ fp, G' b = none) → ∀ b ∈ fp, FpOk (X.blk z3 G3 sc ce fp) [] G' b := fun Kk hn b hb =>
      ⟨hn b hb, (Kk.ok.exf b hb).1, Kk.ok.exfs b hb, .inl hb, fun x c e => (Kk.ok.exf b hb).2 x c e, fun p hp => by simp at hp⟩
    have loop : codeAny (model X.prog X.w) X.A (.compLoop (scE el ta ia tb ib fb sc ps) 0 (.ref it) (.ref D) ce) (compPost (model X.prog X.w) X.A X.xe none (EP X pz sg Qq) (.ref D) z3.heap.objs.size) z4 := by
      refine sc_outer (hs1 ce) (fun n z => ∃ i G, Inv (X.blk z3 G3 sc ce fp) [] (wipe sg (own.map (·.2))) G z ∧ tn i z.heap ∧ (∀ b ∈ fp, G b = none) ∧ W i n G) ?_ m0 ⟨0, G3, K4, t4, nf3, w0⟩
      rintro n z5 ⟨i, G5, K5, t5, n5, w5⟩
      rcases turn i n G5 w5 with ⟨halt, qq⟩ | ⟨go, Nx, hNx, step⟩
      · refine thnF (T.done (X.blk z3 G3 sc ce fp) rfl rfl rfl hc i [] z5 _ G5 (fun _ _ => False) K5 (fpk K5 n5) t5 halt) fun r z6 ⟨hr, K6⟩ => ?_
        subst hr
        have K7 : Inv X pz sg G5 z6 := K3.call' (ch := fp) K6.os K6.base K6.hok K6.bare fun b hb => ⟨(f3 b hb).1.2.2.2.1, (f3 b hb).1.2.1, (f3 b hb).1.2.2.2.2.1, (f3 b hb).1.2.2.2.2.2⟩
        have nC : G5 z3.heap.objs.size = none := lc ▸ (show G5 ce.locals = none from K6.free)
        obtain ⟨m, hm, _⟩ := K6.loc
        have ff := K3.fpOk (Nat.le_refl _) nC
        refine ⟨m, lc ▸ (show z6.heap.Ns ce.locals m from hm), fun h'' sb => ?_⟩
        obtain ⟨a0, a1, _, a3, a4, a5⟩ := ff
        exact ⟨.ref D, G5, K7.turned (t' := z6.toks) (fun b o hb e => (sb.2 b hb).trans e) a0 a1 a3 a4 a5, rfl, qq⟩
      · refine thnF (T.item (X.blk z3 G3 sc ce fp) rfl rfl rfl hc i [] z5 _ G5 (fun _ _ => False) K5 (fpk K5 n5) t5 go) fun r z6 ⟨u, hr, h6⟩ => ?_
        subst hr
        refine thnF h6 fun _ z7 ⟨x, G7, K7, r7, y7, t7, n7⟩ => ?_
        refine thnF (Bg.run _ z7 _ G7 x u _ (K7.pinned (fpk K7 n7) (T.obj _ _ t7)) r7 (step x G7 y7)) fun _ z8 ⟨sg8, G8, K8, w8, q8⟩ => ?_
        have len8 : (wipe sg (own.map (·.2))).length = sg8.length := by rw [← w8, wipe_length]
        -- the turn's end
        have fin : ∀ {z' : Shared} {G' : Hp}, Inv (X.blk z3 G3 sc ce fp) ([] ++ pinsAt fp z7.heap) (wipe sg8 vs1) G' z' → Nx G' → ∃ m, m < n ∧ ∃ i G, Inv (X.blk z3 G3 sc ce fp) [] (wipe sg (own.map (·.2))) G z' ∧ tn i z'.heap ∧ (∀ b ∈ fp, G b = none) ∧ W i m G := fun {z' G'} Kk nx => by
          obtain ⟨m', lt, w'⟩ := hNx G' nx
          have pin : ∀ b ∈ fp, ∀ o, z7.heap.get? b = some o → z'.heap.get? b = some o ∧ G' b = none := fun b hb o e =>
            let y := Kk.pin (b, o) (List.mem_append_right _ (List.mem_append_right _ (mem_pinsAt hb e)))
            ⟨y.1, y.2.1⟩
          refine ⟨m', lt, i + 1, G', (Kk.unpinned (pins := [])).weak (by rw [len8, wipe_length]) (fun j v e => ?_), T.keep _ _ _ t7 fun b hb o e => (pin b hb o e).1, fun b hb => ?_, w'⟩
          · rw [← w8] at e
            obtain ⟨e1, e2⟩ := wipe_some (σ := sg8) e
            rw [wipe_out fun y => e2 (hv j y)]
            exact e1
          · obtain ⟨o, e, _⟩ := T.obj _ _ t7 b hb
            exact (pin b hb o e).2
        refine thnF (Bi.run _ z8 sg8 G8 _ K8 q8) fun _ z9 h9 => thnF h9 fun iw z10 h10 => ?_
        obtain ⟨it1, fp1, tn1, J1, G10, rfl, K10, T1, t10, f10, W1, ⟨m1, w1⟩, turn1⟩ := h10
        have fpk1 : ∀ {G' : Hp}, (∀ b ∈ fp1, G' b = none) → ∀ b ∈ fp1, FpOk (X.blk z3 G3 sc ce fp) ([] ++ pinsAt fp z7.heap) G' b := fun hn b hb => ⟨hn b hb, (f10 b hb).2⟩
        have loop1 : codeAny (model X.prog X.w) X.A (.compLoop (scE el ta ia tb ib fb sc ps) 1 (.ref it1) (.ref D) ce)
            (fun r z' => match r with | .ok _ => ∃ m, m < n ∧ ∃ i G, Inv (X.blk z3 G3 sc ce fp) [] (wipe sg (own.map (·.2))) G z' ∧ tn i z'.heap ∧ (∀ b ∈ fp, G b = none) ∧ W i m G | .error _ => False) z10 := by
          refine sc_inner (fun k z => ∃ j G, Inv (X.blk z3 G3 sc ce fp) ([] ++ pinsAt fp z7.heap) (wipe sg8 vs1) G z ∧ tn1 j z.heap ∧ (∀ b ∈ fp1, G b = none) ∧ W1 j k G) ?_ m1 ⟨0, G10, K10.weak (wipe_length _ _) (fun j v e => (wipe_some e).1), t10, fun b hb => (f10 b hb).1, w1⟩
          rintro k z11 ⟨j, G11, K11, t11, n11, w11⟩
          rcases turn1 j k G11 w11 with ⟨halt1, nx1⟩ | ⟨go1, Ny, hNy, step1⟩
          · refine thnF (T1.done (X.blk z3 G3 sc ce fp) rfl rfl rfl hc j _ z11 (wipe sg8 vs1) G11 (fun _ _ => False) K11 (fpk1 n11) t11 halt1) fun r z12 ⟨hr, K12⟩ => ?_
            subst hr
            exact fin K12 nx1
          · refine thnF (T1.item (X.blk z3 G3 sc ce fp) rfl rfl rfl hc j _ z11 (wipe sg8 vs1) G11 (fun _ _ => False) K11 (fpk1 n11) t11 go1) fun r z12 ⟨u1, hr, h12⟩ => ?_
            subst hr
            refine thnF h12 fun _ z13 ⟨x1, G13, K13, r13, y13, t13, n13⟩ => ?_
            refine thnF (Bh.run _ z13 (wipe sg8 vs1) G13 x1 u1 _ (K13.pinned (fpk1 n13) (T1.obj _ _ t13)) r13 (step1 x1 G13 y13)) fun _ z14 ⟨sg14, G14, K14, w14, q14⟩ => ?_
            refine thnF (Bt.run _ z14 sg14 G14 _ K14 q14) fun b z15 ⟨G15, K15, q15⟩ => ?_
            have fin1 : ∀ {z' : Shared} {G' : Hp}, Inv (X.blk z3 G3 sc ce fp) (([] ++ pinsAt fp z7.heap) ++ pinsAt fp1 z13.heap) sg14 G' z' → Ny G' → ∃ m, m < k ∧ ∃ j G, Inv (X.blk z3 G3 sc ce fp) ([] ++ pinsAt fp z7.heap) (wipe sg8 vs1) G z' ∧ tn1 j z'.heap ∧ (∀ b ∈ fp1, G b = none) ∧ W1 j m G := fun {z' G'} Kk nx => by
              obtain ⟨m', lt, w'⟩ := hNy G' nx
              have pin : ∀ b ∈ fp1, ∀ o, z13.heap.get? b = some o → z'.heap.get? b = some o ∧ G' b = none := fun b hb o e =>
                let y := Kk.pin (b, o) (List.mem_append_right _ (List.mem_append_right _ (mem_pinsAt hb e)))
                ⟨y.1, y.2.1⟩
              refine ⟨m', lt, j + 1, G', Kk.unpinned.weak (by rw [← w14, wipe_length]) (fun j v e => by rw [← w14] at e; exact (wipe_some e).1), T1.keep _ _ _ t13 fun b hb o e => (pin b hb o e).1, fun b hb => ?_, w'⟩
              obtain ⟨o, e, _⟩ := T1.obj _ _ t13 b hb
              exact (pin b hb o e).2
            cases b with
            | false =>
              simp only [Bool.false_eq_true, if_false] at q15 ⊢
              exact fin1 K15 q15
            | true =>
              simp only [if_true] at q15 ⊢
              refine thnF (Be.run _ z15 sg14 G15 _ K15 q15) fun v z16 ⟨y, G16, K16, r16, c, S, nn, ey, hS, hroom, nx⟩ => ?_
              subst ey
              refine wpAny_mono (((mt_sadd (X := X.blk z3 G3 sc ce fp)) _ z16 sg14 G16 (.ref D) [.int c] (.ref D) [v] (fun _ G' => Ny G') K16 rfl (.cons r16 .nil) ⟨D, c, S, nn, rfl, rfl, hS, hroom, nx⟩)) (fun _ z17 ⟨_, G17, K17, _, q17⟩ => fin1 K17 q17) fun _ _ q => q
        exact sc_begin loop1 (T1.self X.A 0 _ _ _ t10 loop1)
    exact PpSet.codeAny_compStart_set loop (T.self X.A 0 _ _ _ t4 loop)
  exact hz3 ▸ goal
end
end Cc

/-! The first start at which two plans differ is a telling one. -/
namespace Cc
open PySem PySem.Spec PyProof.Rows L2
/-- what a plan leaves and carries from x -/
abbrev outF (c : Int) (ss : List Stp) (x : Int) : Int × Int := stepsF c ss (x, 0)
theorem smEnd_ends (m : Sm) : (smEnd m).low = m.low ∧ (smEnd m).high = m.high := by
  unfold smEnd
  split <;> exact ⟨rfl, rfl⟩
theorem dist_even {lo hi x : Int} (h : lo ≤ hi) (h1 : x ≠ lo) (h2 : x ≠ lo + 1) (h3 : x ≠ hi) (h4 : x ≠ hi + 1) : distF lo hi x = 2 * distF lo hi (x - 1) - distF lo hi (x - 2) ∧ clampF lo hi x = 2 * clampF lo hi (x - 1) - clampF lo hi (x - 2) := by
  unfold distF clampF
  constructor <;> omega
/-- off the ends both numbers go on evenly -/
theorem out_even {c x : Int} {ss : List Stp} (hs : ∀ s ∈ ss, s.ok c) (x2 : 2 ≤ x) (x1 : x ≤ c) (h1 : x ≠ (smSteps c ss).low) (h2 : x ≠ (smSteps c ss).low + 1) (h3 : x ≠ (smSteps c ss).high) (h4 : x ≠ (smSteps c ss).high + 1) :
    (outF c ss x).1 = 2 * (outF c ss (x - 1)).1 - (outF c ss (x - 2)).1 ∧ (outF c ss x).2 = 2 * (outF c ss (x - 1)).2 - (outF c ss (x - 2)).2 := by
  obtain ⟨ok, a1, a2⟩ := smSteps_says (c := c) (x := x) (by omega) x1 ss hs
  obtain ⟨_, b1, b2⟩ := smSteps_says (c := c) (x := x - 1) (by omega) (by omega) ss hs
  obtain ⟨_, d1, d2⟩ := smSteps_says (c := c) (x := x - 2) (by omega) (by omega) ss hs
  obtain ⟨e1, e2⟩ := dist_even ok.lh h1 h2 h3 h4
  show (stepsF c ss (x, 0)).1 = 2 * (stepsF c ss (x - 1, 0)).1 - (stepsF c ss (x - 2, 0)).1 ∧ (stepsF c ss (x, 0)).2 = 2 * (stepsF c ss (x - 1, 0)).2 - (stepsF c ss (x - 2, 0)).2
  generalize (stepsF c ss (x, 0)) = px at *
  generalize (stepsF c ss (x - 1, 0)) = py at *
  generalize (stepsF c ss (x - 2, 0)) = pz at *
  obtain ⟨px1, px2⟩ := px
  obtain ⟨py1, py2⟩ := py
  obtain ⟨pz1, pz2⟩ := pz
  simp only at a1 a2 b1 b2 d1 d2
  generalize smSteps c ss = m at *
  obtain ⟨low, high, extra, goal, turned⟩ := m
  simp only at a1 a2 b1 b2 d1 d2 e1 e2
  refine ⟨?_, by show px2 = 2 * py2 - pz2; omega⟩
  show px1 = 2 * py1 - pz1
  cases goal <;> cases turned <;> simp [placeF, sideF] at a2 b2 d2 <;> omega
/-- the numbers that `telling` lists: 0 and both plans' ends, each with the next -/
def boundsF (c : Int) (a b : List Stp) : List Int := [0, (smSteps c a).low, (smSteps c a).high, (smSteps c b).low, (smSteps c b).high]
def TellF (c : Int) (a b : List Stp) (x : Int) : Prop := x ≤ c ∧ ∃ z ∈ boundsF c a b, x = z ∨ x = z + 1
theorem tell_first {c x : Int} {a b : List Stp} (ha : ∀ s ∈ a, s.ok c) (hb : ∀ s ∈ b, s.ok c) (x0 : 0 ≤ x) (x1 : x ≤ c) (hd : outF c a x ≠ outF c b x) (hs : ∀ y, 0 ≤ y → y < x → outF c a y = outF c b y) : TellF c a b x := by
  by_cases q : TellF c a b x
  · exact q
  · exfalso
    have f : ∀ z ∈ boundsF c a b, x ≠ z ∧ x ≠ z + 1 := fun z hz => ⟨fun e => q ⟨x1, z, hz, .inl e⟩, fun e => q ⟨x1, z, hz, .inr e⟩⟩
    simp only [boundsF, List.mem_cons, List.not_mem_nil, or_false, forall_eq_or_imp, forall_eq] at f
    obtain ⟨f0, f1, f2, f3, f4⟩ := f
    obtain ⟨p1, p2⟩ := out_even ha (show 2 ≤ x by omega) x1 f1.1 f1.2 f2.1 f2.2
    obtain ⟨q1, q2⟩ := out_even hb (show 2 ≤ x by omega) x1 f3.1 f3.2 f4.1 f4.2
    have g1 := hs (x - 1) (by omega) (by omega)
    have g2 := hs (x - 2) (by omega) (by omega)
    rw [g1, g2] at p1 p2
    exact hd (Prod.ext (p1.trans q1.symm) (p2.trans q2.symm))
/-- what first_difference answers -/
def FirstF (c : Int) (a b : List Stp) : Option Int → Prop
  | none => ∀ x, 0 ≤ x → x ≤ c → outF c a x = outF c b x
  | some x => 0 ≤ x ∧ x ≤ c ∧ outF c a x ≠ outF c b x ∧ ∀ y, 0 ≤ y → y < x → outF c a y = outF c b y
theorem below {c : Int} {a b : List Stp} (ha : ∀ s ∈ a, s.ok c) (hb : ∀ s ∈ b, s.ok c) {n : Int} (hn : n ≤ c + 1) (ht : ∀ y, 0 ≤ y → y < n → TellF c a b y → outF c a y = outF c b y) : ∀ (k : Nat) (y : Int), y = (k : Int) → y < n → outF c a y = outF c b y := by
  intro k
  induction k using Nat.strongRecOn with
  | _ k ih =>
    intro y hy hlt
    by_cases q : outF c a y = outF c b y
    · exact q
    · exact ht y (by omega) hlt (tell_first ha hb (by omega) (by omega) q fun z z0 z1 => ih z.toNat (by omega) z (by omega) (by omega))
theorem first_some {c : Int} {a b : List Stp} (ha : ∀ s ∈ a, s.ok c) (hb : ∀ s ∈ b, s.ok c) {x : Int} (x0 : 0 ≤ x) (x1 : x ≤ c) (hd : outF c a x ≠ outF c b x) (ht : ∀ y, 0 ≤ y → y < x → TellF c a b y → outF c a y = outF c b y) : FirstF c a b (some x) :=
  ⟨x0, x1, hd, fun y y0 y1 => below ha hb (n := x) (by omega) ht y.toNat y (by omega) y1⟩
theorem first_none {c : Int} {a b : List Stp} (ha : ∀ s ∈ a, s.ok c) (hb : ∀ s ∈ b, s.ok c) (ht : ∀ y, 0 ≤ y → y ≤ c → TellF c a b y → outF c a y = outF c b y) : FirstF c a b none :=
  fun x x0 x1 => below ha hb (n := c + 1) (by omega) (fun y y0 y1 => ht y y0 (by omega)) x.toNat x (by omega) (by omega)
theorem first_uniq {c : Int} {a b : List Stp} : ∀ {o o' : Option Int}, FirstF c a b o → FirstF c b a o' → o = o'
  | none, none, _, _ => rfl
  | none, some x, h, ⟨x0, x1, hd, _⟩ => absurd (h x x0 x1).symm hd
  | some x, none, ⟨x0, x1, hd, _⟩, h => absurd (h x x0 x1).symm hd
  | some x, some y, ⟨x0, x1, hd, hm⟩, ⟨y0, y1, he, hn⟩ => by
    have e : x = y := by
      rcases Int.lt_trichotomy x y with q | q | q
      · exact absurd (hn x x0 q).symm hd
      · exact q
      · exact absurd (hm y y0 q).symm he
    rw [e]
theorem eqv_ints (a b c d : Int) : PyData.eqv (.tuple [.int a, .int b]) (.tuple [.int c, .int d]) = decide ((a, b) = (c, d)) := by
  have q : ∀ i j : Int, (i == j) = decide (i = j) := fun i j => by by_cases h : i = j <;> simp [h]
  simp [PyData.eqv, PyData.eqvAll, q]
theorem shaped_ints (a b : Int) : SeqAt.shaped (.tuple [.int a, .int b]) = true := by
  simp [SeqAt.shaped, PyData.canLay0, PyData.canLayAll0, PyData.depth, PyData.depthAll]
/-- a part of a list of steps -/
theorem Steps.drop {H : Hp} : ∀ {vs : List V} {ss : List Stp} (n : Nat), Steps H vs ss → Steps H (vs.drop n) (ss.drop n)
  | _, _, 0, h => h
  | _, _, _ + 1, .nil => .nil
  | _, _, n + 1, .cons _ t => Steps.drop n t
theorem Steps.take {H : Hp} : ∀ {vs : List V} {ss : List Stp} (n : Nat), Steps H vs ss → Steps H (vs.take n) (ss.take n)
  | _, _, 0, _ => .nil
  | _, _, _ + 1, .nil => .nil
  | _, _, n + 1, .cons r t => .cons r (Steps.take n t)
theorem Steps.cut {H : Hp} {vs : List V} {ss : List Stp} (h : Steps H vs ss) (lo hi : Option Int) : ∃ us, Steps H (cutV vs lo hi) us ∧ us.length ≤ ss.length ∧ ∀ u ∈ us, u ∈ ss := by
  refine ⟨_, (h.drop _).take _, ?_, fun u hu => List.mem_of_mem_drop (List.mem_of_mem_take hu)⟩
  simp only [List.length_take, List.length_drop]
  omega
/-- a walk with a body of any form -/
theorem walk_any {J : It} {n : Nat} {G0 : Hp} {Nx : Hp → Prop} {Bd : V → Hp → (Hp → Prop) → Prop} (Pv : Nat → Hp → Prop) (h0 : Pv 0 G0) (hgo : ∀ i H, i < n → Pv i H → J.go i H) (hst : ∀ H, Pv n H → J.stop n H)
    (hs : ∀ i x H H', i < n → Pv i H → J.yld i H x H' → Bd x H' (Pv (i + 1))) (hd : ∀ H, Pv n H → Nx H) :
    ∃ W : Nat → Nat → Hp → Prop, (∃ m, W 0 m G0) ∧ ∀ j k G, W j k G → (J.stop j G ∧ Nx G) ∨ (J.go j G ∧ ∃ Ny : Hp → Prop, (∀ G', Ny G' → ∃ k', k' < k ∧ W (j + 1) k' G') ∧ ∀ x G', J.yld j G x G' → Bd x G' Ny) := by
  refine ⟨fun i m G => m = n - i ∧ i ≤ n ∧ Pv i G, ⟨n, (Nat.sub_zero n).symm, Nat.zero_le _, h0⟩, ?_⟩
  rintro i m H ⟨rfl, hi, p⟩
  by_cases hlt : i < n
  · exact .inr ⟨hgo i H hlt p, Pv (i + 1), fun H' p' => ⟨n - (i + 1), by omega, rfl, hlt, p'⟩, fun x H' y => hs i x H H' hlt p y⟩
  · have e : i = n := by omega
    subst e
    exact .inl ⟨hst H p, hd H p⟩
theorem walk_tup {K : PySem.W.Frag} {a : Addr} {xs : List V} {G0 : Hp} {Nx : Hp → Prop} {Bd : V → Hp → (Hp → Prop) → Prop} (Pv : Nat → Hp → Prop) (h0 : Pv 0 G0) (hl : ∀ i H, Pv i H → SqT K H a xs)
    (hs : ∀ i x H, xs[i]? = some x → Pv i H → Bd x H (Pv (i + 1))) (hd : ∀ H, Pv xs.length H → Nx H) :
    ∃ W : Nat → Nat → Hp → Prop, (∃ m, W 0 m G0) ∧ ∀ j k G, W j k G → ((Itt K a).stop j G ∧ Nx G) ∨ ((Itt K a).go j G ∧ ∃ Ny : Hp → Prop, (∀ G', Ny G' → ∃ k', k' < k ∧ W (j + 1) k' G') ∧ ∀ x G', (Itt K a).yld j G x G' → Bd x G' Ny) :=
  walk_any (n := xs.length) Pv h0 (fun i H hi p => ⟨xs, xs[i], hl i H p, by simp [hi]⟩) (fun H p => ⟨xs, hl _ H p, Nat.le_refl _⟩) (fun i x H H' hi p y => by
    obtain ⟨e, y⟩ := y
    subst e
    exact hs i x _ (y xs (hl i _ p)) p) hd
theorem walk_list {K : PySem.W.Frag} {a : Addr} {xs : List V} {G0 : Hp} {Nx : Hp → Prop} {Bd : V → Hp → (Hp → Prop) → Prop} (Pv : Nat → Hp → Prop) (h0 : Pv 0 G0) (hl : ∀ i H, Pv i H → SqL K H a xs)
    (hs : ∀ i x H, xs[i]? = some x → Pv i H → Bd x H (Pv (i + 1))) (hd : ∀ H, Pv xs.length H → Nx H) :
    ∃ W : Nat → Nat → Hp → Prop, (∃ m, W 0 m G0) ∧ ∀ j k G, W j k G → ((Itl K a).stop j G ∧ Nx G) ∨ ((Itl K a).go j G ∧ ∃ Ny : Hp → Prop, (∀ G', Ny G' → ∃ k', k' < k ∧ W (j + 1) k' G') ∧ ∀ x G', (Itl K a).yld j G x G' → Bd x G' Ny) :=
  walk_any (n := xs.length) Pv h0 (fun i H hi p => ⟨xs, xs[i], hl i H p, by simp [hi]⟩) (fun H p => ⟨xs, hl _ H p, Nat.le_refl _⟩) (fun i x H H' hi p y => by
    obtain ⟨e, y⟩ := y
    subst e
    exact hs i x _ (y xs (hl i _ p)) p) hd
theorem mem_before {ns : List Int} (hp : ns.Pairwise (· < ·)) {i : Nat} {z y : Int} (hz : ns[i]? = some z) (hy : y ∈ ns) (hlt : y < z) : y ∈ ns.take i := by
  obtain ⟨j, hj, ej⟩ := List.mem_iff_getElem.mp hy
  obtain ⟨hi, ei⟩ := List.getElem?_eq_some_iff.mp hz
  by_cases q : j < i
  · rw [List.mem_take_iff_getElem]
    exact ⟨j, by omega, ej⟩
  · exfalso
    by_cases e : j = i
    · subst e
      omega
    · have := List.pairwise_iff_getElem.mp hp i j hi hj (by omega)
      omega
/-! ### lists of steps: cut, joined, twice -/
section
variable {K : PySem.W.Frag} {c : Int} {H : Hp} {l b : Addr} {ws zs : List V} {ss us : List Stp} {Q : VK}
theorem do_cut {lo hi : Option Int} (hl : H l = some (.lst ws)) (hs : Steps H ws ss) (ho : ∀ s ∈ ss, s.ok c)
    (k : ∀ p vs us H', H p = none → Same H H' → H' p = some (.lst vs) → Steps H' vs us → us.length ≤ ss.length → (∀ u ∈ us, u.ok c) → Q (.ref p) H') : rSlL K (.ref l) lo hi H Q :=
  ⟨l, ws, rfl, SqL.of hl, fun p hp => let ⟨us, h1, h2, h3⟩ := hs.cut lo hi; k p _ us _ hp (same_upd hp) upd_same (h1.same (same_upd hp)) h2 fun u hu => ho u (h3 u hu)⟩
theorem do_cat (ha : H l = some (.lst ws)) (hs : Steps H ws ss) (hb : H b = some (.lst zs)) (ht : Steps H zs us) (hn : ss.length + us.length ≤ 100)
    (k : ∀ p H', H p = none → Same H H' → H' p = some (.lst (ws ++ zs)) → Steps H' (ws ++ zs) (ss ++ us) → Q (.ref p) H') : rCat (.ref l) (.ref b) H Q :=
  ⟨l, b, ws, zs, rfl, rfl, ha, hb, by rw [hs.length, ht.length, sizeLine_eq]; omega, fun p hp => k p _ hp (same_upd hp) upd_same ((hs.append ht).same (same_upd hp))⟩
theorem do_twice (ha : H l = some (.lst ws)) (hs : Steps H ws ss) (hn : ss.length ≤ 50)
    (k : ∀ p H', Same H H' → H' p = some (.lst (ws ++ ws)) → Steps H' (ws ++ ws) (ss ++ ss) → Q (.ref p) H') : rRep (.ref l) (.int 2) H Q :=
  ⟨l, 2, ws, rfl, rfl, ha, by decide, by decide, by rw [hs.length, sizeLine_eq]; show ss.length * 2 ≤ _; omega, fun p hp => by
    have e : (List.replicate (2 : Int).toNat ws).flatten = ws ++ ws := by
      show ws ++ (ws ++ []) = ws ++ ws
      rw [List.append_nil]
    rw [e]
    exact k p _ (same_upd hp) upd_same ((hs.append hs).same (same_upd hp))⟩
end
theorem lay_ints : ∀ ns : List Int, PyData.canLayAll0 (ns.map PyData.int) = true ∧ PyData.depthAll (ns.map PyData.int) = 0
  | [] => by simp [PyData.canLayAll0, PyData.depthAll]
  | n :: ns => by
    obtain ⟨a, b⟩ := lay_ints ns
    simp [PyData.canLayAll0, PyData.depthAll, PyData.canLay0, PyData.depth, a, b]
theorem shaped_list (ns : List Int) : SeqAt.shaped (.list (ns.map PyData.int)) = true := by
  obtain ⟨a, b⟩ := lay_ints ns
  unfold SeqAt.shaped
  simp [PyData.canLay0, PyData.depth, a, b]
theorem eqv_nil (ns : List Int) : PyData.eqv (.list (ns.map PyData.int)) (.list []) = decide (ns = []) := by
  cases ns <;> simp [PyData.eqv, PyData.eqvAll]
theorem dp_ints {K : PySem.W.Frag} {H : Hp} : ∀ ns : List Int, DpAll K H (ns.map V.int) (ns.map PyData.int)
  | [] => .nil
  | n :: ns => .cons (.int n) (dp_ints ns)
/-- the first of the starts below n -/
def FirstB (c : Int) (a b : List Stp) (n : Nat) : Option Int → Prop
  | none => ∀ x, 0 ≤ x → x < (n : Int) → outF c a x = outF c b x
  | some x => 0 ≤ x ∧ x < (n : Int) ∧ outF c a x ≠ outF c b x ∧ ∀ y, 0 ≤ y → y < x → outF c a y = outF c b y
theorem firstB_no {c : Int} {a b : List Stp} {n : Nat} : ∀ {o : Option Int}, FirstB c a b n o → outF c a (n : Int) = outF c b (n : Int) → FirstB c a b (n + 1) o
  | none, h, e => fun x x0 x1 => by
    by_cases q : x = (n : Int)
    · rw [q]
      exact e
    · exact h x x0 (by omega)
  | some _, ⟨h1, h2, h3, h4⟩, _ => ⟨h1, by omega, h3, h4⟩
theorem firstB_yes {c : Int} {a b : List Stp} {n : Nat} : ∀ {ns : List Int}, FirstB c a b n ns.head? → outF c a (n : Int) ≠ outF c b (n : Int) → FirstB c a b (n + 1) (ns ++ [(n : Int)]).head?
  | [], h, e => ⟨by omega, by omega, e, fun y y0 y1 => h y y0 y1⟩
  | _ :: _, ⟨h1, h2, h3, h4⟩, _ => ⟨h1, by omega, h3, h4⟩
theorem firstB_end {c : Int} {a b : List Stp} (c0 : 0 ≤ c) : ∀ {o : Option Int}, FirstB c a b (c + 1).toNat o → FirstF c a b o
  | none, h => fun x x0 x1 => h x x0 (by omega)
  | some _, ⟨h1, h2, h3, h4⟩ => ⟨h1, by omega, h3, h4⟩
theorem first_swap {c : Int} {a b : List Stp} : ∀ {o : Option Int}, FirstF c a b o → FirstF c b a o
  | none, h => fun x x0 x1 => (h x x0 x1).symm
  | some _, ⟨h1, h2, h3, h4⟩ => ⟨h1, h2, fun e => h3 e.symm, fun y y0 y1 => (h4 y y0 y1).symm⟩
theorem first_same {c : Int} {a b : List Stp} {o o' : Option Int} (h : FirstF c a b o) (h' : FirstF c a b o') : o = o' := first_uniq h (first_swap h')
theorem scal_goal (o o' : Option Int) : scal (goalV o) (goalV o') = true := by
  cases o <;> cases o' <;> rfl
end Cc

namespace Cc
open PySem PySem.Spec PyProof.Rows L2
abbrev sAlike : Stmt := top 38
/-! _law_alike of values that say the same -/
/-- scalars -/
def Scal (v : V) : Prop := (∃ i, v = .int i) ∨ (∃ y, v = .str y) ∨ (∃ y, v = .bl y) ∨ v = .non
/-- what never changes is kept: tuples, what is locked -/
def Fix (H H' : Hp) : Prop := (∀ b us, H b = some (.tup us) → H' b = some (.tup us)) ∧ ∀ b o u, H b = some (.frz o u) → H' b = some (.frz o u)
theorem Fix.of {H H' : Hp} (s : Same H H') : Fix H H' := ⟨fun _ _ e => s _ _ e, fun _ _ _ e => s _ _ e⟩
theorem Fix.trans {H H1 H2 : Hp} (a : Fix H H1) (b : Fix H1 H2) : Fix H H2 := ⟨fun _ _ e => b.1 _ _ (a.1 _ _ e), fun _ _ _ e => b.2 _ _ _ (a.2 _ _ _ e)⟩
def TupK (K : PySem.W.Frag) (H : Hp) (p : Addr) (xs : List V) : Prop := ∀ H', Fix H H' → SqT K H' p xs
theorem TupK.of {K : PySem.W.Frag} {H : Hp} {p : Addr} {xs : List V} (h : H p = some (.tup xs)) : TupK K H p xs := fun H' k => SqT.of (k.1 _ _ h)
theorem TupK.fix {K : PySem.W.Frag} {H H1 : Hp} {p : Addr} {xs : List V} (h : TupK K H p xs) (s : Fix H H1) : TupK K H1 p xs := fun H' k => h H' (s.trans k)
theorem TupK.same {K : PySem.W.Frag} {H H1 : Hp} {p : Addr} {xs : List V} (h : TupK K H p xs) (s : Same H H1) : TupK K H1 p xs := h.fix (Fix.of s)
theorem TupK.lock {K : PySem.W.Frag} {H : Hp} {p : Addr} {xs : List V} (h : TupP H p xs) : TupK K H p xs := fun H' k => let ⟨o, d, e⟩ := h; TupP.sq ⟨o, d, k.2 _ _ _ e⟩
theorem TupK.at_ {K : PySem.W.Frag} {H : Hp} {p : Addr} {xs : List V} (h : TupK K H p xs) : SqT K H p xs := h H (Fix.of (Same.refl H))
/-- two values that say the same, down to a depth -/
def SmD (K : PySem.W.Frag) (H : Hp) : Nat → V → V → Prop
  | 0, v, w => w = v ∧ Scal v
  | n + 1, v, w => SmD K H n v w ∨ ∃ (p q : Addr) (xs ys : List V), v = .ref p ∧ w = .ref q ∧ xs.length ≤ 100000 ∧ Paired (SmD K H n) xs ys ∧ ((H p = some (.lst xs) ∧ H q = some (.lst ys)) ∨ (TupK K H p xs ∧ TupK K H q ys))
theorem paired_mono {R S : V → V → Prop} (m : ∀ v w, R v w → S v w) : ∀ {xs ys : List V}, Paired R xs ys → Paired S xs ys
  | _, _, .nil => .nil
  | _, _, .cons a r => .cons (m _ _ a) (paired_mono m r)
theorem paired_at {R : V → V → Prop} : ∀ {xs ys : List V} {i : Nat} {x y : V}, Paired R xs ys → xs[i]? = some x → ys[i]? = some y → R x y
  | _, _, 0, _, _, .cons a r, e1, e2 => by
    cases e1
    cases e2
    exact a
  | _, _, i + 1, _, _, .cons a r, e1, e2 => paired_at (i := i) r e1 e2
theorem SmD.same {K : PySem.W.Frag} {H H1 : Hp} (s : Same H H1) : ∀ {n : Nat} {v w : V}, SmD K H n v w → SmD K H1 n v w
  | 0, _, _, h => h
  | n + 1, _, _, .inl h => .inl (SmD.same s h)
  | n + 1, _, _, .inr ⟨p, q, xs, ys, e1, e2, hn, hP, h⟩ => .inr ⟨p, q, xs, ys, e1, e2, hn, paired_mono (fun _ _ z => SmD.same s z) hP, h.imp (fun z => ⟨s _ _ z.1, s _ _ z.2⟩) fun z => ⟨z.1.same s, z.2.same s⟩⟩
def spAlike (K : PySem.W.Frag) (n : Nat) : Sp := fun vs H Q _ => ∃ (a b : V), vs = [a, b] ∧ SmD K H n a b ∧ ∀ H', Same H H' → Q (.bl true) H'
def spAlikeL (K : PySem.W.Frag) (n : Nat) : Sp := fun vs H Q _ => ∃ (p q : Addr) (xs ys : List V), vs = [.ref p, .ref q] ∧ H p = some (.lst xs) ∧ H q = some (.lst ys) ∧ xs.length ≤ 100000 ∧ Paired (SmD K H n) xs ys ∧ ∀ H', Same H H' → Q (.bl true) H'
def spAlikeT (K : PySem.W.Frag) (n : Nat) : Sp := fun vs H Q _ => ∃ (p q : Addr) (xs ys : List V), vs = [.ref p, .ref q] ∧ TupK K H p xs ∧ TupK K H q ys ∧ xs.length ≤ 100000 ∧ Paired (SmD K H n) xs ys ∧ ∀ H', Same H H' → Q (.bl true) H'
abbrev nAlike : List Str := ["_law_found", "_law_due", "_law_k"]
def ttSameDL (K : PySem.W.Frag) (n : Nat) : TT := tNot (tB fun σ H Q => tCons (tOp (rIxL K) (tVar 0) (tVar 2)) (tCons (tOp (rIxL K) (tVar 1) (tVar 2)) tNil) σ H fun vs H1 => spAlike K n vs H1 Q E0)
def ttSameDT (K : PySem.W.Frag) (n : Nat) : TT := tNot (tB fun σ H Q => tCons (tOp (rIxT K) (tVar 0) (tVar 2)) (tCons (tOp (rIxT K) (tVar 1) (tVar 2)) tNil) σ H fun vs H1 => spAlike K n vs H1 Q E0)
section
variable {P : Program} {w : World} {K : PySem.W.Frag} {mg : Str → Option Value} {base : Heap}
theorem scAlike : FnScope nAlike ["_law_found", "_law_due"] (defScope sAlike) := ⟨rfl, rfl, rfl, by decide +kernel, rfl, by decide +kernel, by decide +kernel⟩
theorem kit_no {K : PySem.W.Frag} {t : Value} {a b : Value} (h1 : PySem.W.kitOne K t a = some false) (h2 : PySem.W.kitOne K t b = some false) : PySem.W.kitAny K t [a, b] = some false :=
  kitAny_cons h1 (fun _ => kitAny_cons h2 (fun _ => kitAny_nil) fun z => nomatch z) fun z => nomatch z
theorem kit_fst {K : PySem.W.Frag} {t : Value} {a b : Value} (h1 : PySem.W.kitOne K t a = some true) : PySem.W.kitAny K t [a, b] = some true := kitAny_cons h1 (fun z => nomatch z) fun _ => rfl
theorem kit_yes {K : PySem.W.Frag} {t : Value} {a b : Value} (h1 : PySem.W.kitOne K t a = some false) (h2 : PySem.W.kitOne K t b = some true) : PySem.W.kitAny K t [a, b] = some true :=
  kitAny_cons h1 (fun _ => kitAny_cons h2 (fun z => nomatch z) fun _ => rfl) fun z => nomatch z
theorem ok_alike0 {f : Addr} {fd : FuncData} (F : Fun K "_law_alike" "_law_alike" sAlike f fd) (B : Bt mg) : FnOk P w K mg base CX0 1 f fd ["_law_found", "_law_due"] (spAlike K 0) := by
  refine F.ok scAlike (fun vs H Q E h => ?_) (fun cdv A outer s H vs Q E hr h => ?_)
  · obtain ⟨a, b, rfl, _⟩ := h
    rfl
  · obtain ⟨a, b, rfl, ⟨rfl, ha⟩, k⟩ := h
    refine ⟨_, pss_cons (ps_if (pt_val (pe_callB call_isi (by rfl) B.isinstance (by decide +kernel) (pa_cons (pv 1) (pa_cons (pe_bltn (v := .ty "dict") (by rfl) B.dict (by decide +kernel) rfl) pa_nil)))) (pss_one ps_never) pss_nil)
      (pss_cons (ps_if (pt_val (pe_callB call_isiT (by rfl) B.isinstance (by decide +kernel) (pa_cons (pv 1) (pa_cons (pe_tup (pa_cons (pe_bltn (v := .ty "tuple") (by rfl) B.tuple (by decide +kernel) rfl) (pa_cons (pe_bltn (v := .ty "list") (by rfl) B.list (by decide +kernel) rfl) pa_nil))) pa_nil)))) (pss_cons ps_never (pss_cons ps_never (pss_one ps_never))) pss_nil)
      (pss_cons (ps_if (PW.pt (pw_or (pt_cmpR op_isN (pv 1) pe_non (nomark _)) (pw_or1 (pt_val (pe_callB call_isi (by rfl) B.isinstance (by decide +kernel) (pa_cons (pv 1) (pa_cons (pe_bltn (v := .ty "str") (by rfl) B.str (by decide +kernel) rfl) pa_nil)))))))
        (pss_one (ps_ret (pe_and (pe_cmpR op_eq (pv 0) (pv 1) (nomark _)) (pe_one (pe_cmpR op_eq (pe_callB call_isi (by rfl) B.isinstance (by decide +kernel) (pa_cons (pv 0) (pa_cons (pe_bltn (v := .ty "str") (by rfl) B.str (by decide +kernel) rfl) pa_nil))) (pe_callB call_isi (by rfl) B.isinstance (by decide +kernel) (pa_cons (pv 1) (pa_cons (pe_bltn (v := .ty "str") (by rfl) B.str (by decide +kernel) rfl) pa_nil))) (nomark _)))))) pss_nil)
      (pss_one (ps_ret (pe_and (pe_callB call_isi (by rfl) B.isinstance (by decide +kernel) (pa_cons (pv 0) (pa_cons (pe_bltn (v := .ty "int") (by rfl) B.int (by decide +kernel) rfl) pa_nil))) (pe_and (pe_cmpR op_eq (pe_callB call_isi (by rfl) B.isinstance (by decide +kernel) (pa_cons (pv 0) (pa_cons (pe_bltn (v := .ty "bool") (by rfl) B.bool (by decide +kernel) rfl) pa_nil))) (pe_callB call_isi (by rfl) B.isinstance (by decide +kernel) (pa_cons (pv 1) (pa_cons (pe_bltn (v := .ty "bool") (by rfl) B.bool (by decide +kernel) rfl) pa_nil))) (nomark _)) (pe_one (pe_cmpR op_eq (pv 0) (pv 1) (nomark _))))))))), ?_⟩
    rcases ha with ⟨i, rfl⟩ | ⟨y, rfl⟩ | ⟨y, rfl⟩ | rfl
    · refine ⟨_, rfl, _, _, _, _, false, rfl, .ty "dict", .base (.int i), kit_ty (by decide +kernel), false, rfl, iteF ?_⟩
      refine ⟨_, rfl, by show 2 ≤ sizeLine; decide, fun t ht => ?_⟩
      refine ⟨_, t, _, _, _, false, rfl, upd_same, .cons (.ty "tuple") (.cons (.ty "list") .nil), .base (.int i), kit_no (kit_ty (by decide +kernel)) (kit_ty (by decide +kernel)), false, rfl, iteF ?_⟩
      refine ⟨_, rfl, rfl, _, rfl, ifF (by simp) ⟨_, rfl, _, _, _, _, false, rfl, .ty "str", .base (.int i), kit_ty (by decide +kernel), false, rfl, iteF ?_⟩⟩
      refine ⟨_, rfl, _, _, _, _, true, rfl, .ty "int", .base (.int i), kit_ty (by decide +kernel), true, rfl, iteT ?_⟩
      refine ⟨_, rfl, _, _, _, _, false, rfl, .ty "bool", .base (.int i), kit_ty (by decide +kernel), _, rfl, _, _, _, _, false, rfl, .ty "bool", .base (.int i), kit_ty (by decide +kernel), rfl, true, rfl, iteT ?_⟩
      refine ⟨_, rfl, _, rfl, rfl, ?_⟩
      rw [decide_eq_true (show V.int i = V.int i from rfl)]
      exact k _ (same_upd ht)
    · refine ⟨_, rfl, _, _, _, _, false, rfl, .ty "dict", .base (.str y), kit_ty (by decide +kernel), false, rfl, iteF ?_⟩
      refine ⟨_, rfl, by show 2 ≤ sizeLine; decide, fun t ht => ?_⟩
      refine ⟨_, t, _, _, _, false, rfl, upd_same, .cons (.ty "tuple") (.cons (.ty "list") .nil), .base (.str y), kit_no (kit_ty (by decide +kernel)) (kit_ty (by decide +kernel)), false, rfl, iteF ?_⟩
      refine ⟨_, rfl, rfl, _, rfl, ifF (by simp) ⟨_, rfl, _, _, _, _, true, rfl, .ty "str", .base (.str y), kit_ty (by decide +kernel), true, rfl, iteT ?_⟩⟩
      refine ⟨_, rfl, _, rfl, rfl, true, by rw [decide_eq_true (show V.str y = V.str y from rfl)], iteT ?_⟩
      refine ⟨_, rfl, _, _, _, _, true, rfl, .ty "str", .base (.str y), kit_ty (by decide +kernel), _, rfl, _, _, _, _, true, rfl, .ty "str", .base (.str y), kit_ty (by decide +kernel), rfl, ?_⟩
      exact k _ (same_upd ht)
    · refine ⟨_, rfl, _, _, _, _, false, rfl, .ty "dict", .base (.bl y), kit_ty (by decide +kernel), false, rfl, iteF ?_⟩
      refine ⟨_, rfl, by show 2 ≤ sizeLine; decide, fun t ht => ?_⟩
      refine ⟨_, t, _, _, _, false, rfl, upd_same, .cons (.ty "tuple") (.cons (.ty "list") .nil), .base (.bl y), kit_no (kit_ty (by decide +kernel)) (kit_ty (by decide +kernel)), false, rfl, iteF ?_⟩
      refine ⟨_, rfl, rfl, _, rfl, ifF (by simp) ⟨_, rfl, _, _, _, _, false, rfl, .ty "str", .base (.bl y), kit_ty (by decide +kernel), false, rfl, iteF ?_⟩⟩
      refine ⟨_, rfl, _, _, _, _, true, rfl, .ty "int", .base (.bl y), kit_ty (by decide +kernel), true, rfl, iteT ?_⟩
      refine ⟨_, rfl, _, _, _, _, true, rfl, .ty "bool", .base (.bl y), kit_ty (by decide +kernel), _, rfl, _, _, _, _, true, rfl, .ty "bool", .base (.bl y), kit_ty (by decide +kernel), rfl, true, rfl, iteT ?_⟩
      refine ⟨_, rfl, _, rfl, rfl, ?_⟩
      rw [decide_eq_true (show V.bl y = V.bl y from rfl)]
      exact k _ (same_upd ht)
    · refine ⟨_, rfl, _, _, _, _, false, rfl, .ty "dict", .base .non, kit_ty (by decide +kernel), false, rfl, iteF ?_⟩
      refine ⟨_, rfl, by show 2 ≤ sizeLine; decide, fun t ht => ?_⟩
      refine ⟨_, t, _, _, _, false, rfl, upd_same, .cons (.ty "tuple") (.cons (.ty "list") .nil), .base .non, kit_no (kit_ty (by decide +kernel)) (kit_ty (by decide +kernel)), false, rfl, iteF ?_⟩
      refine ⟨_, rfl, rfl, _, rfl, ifT (by simp) (iteT ?_)⟩
      refine ⟨_, rfl, _, rfl, rfl, true, by rw [decide_eq_true (show V.non = V.non from rfl)], iteT ?_⟩
      refine ⟨_, rfl, _, _, _, _, false, rfl, .ty "str", .base .non, kit_ty (by decide +kernel), _, rfl, _, _, _, _, false, rfl, .ty "str", .base .non, kit_ty (by decide +kernel), rfl, ?_⟩
      exact k _ (same_upd ht)
theorem ok_alikel {f : Addr} {fd : FuncData} (F : Fun K "_law_alike" "_law_alike" sAlike f fd) (B : Bt mg) {n : Nat} (DI : Dn P w K mg base (n + 1) "_law_alike" f (spAlike K n)) : FnOk P w K mg base CX0 (n + 1 + 1) f fd ["_law_found", "_law_due"] (spAlikeL K n) := by
  refine F.ok scAlike (fun vs H Q E h => ?_) (fun cdv A outer s H vs Q E hr h => ?_)
  · obtain ⟨p, q, xs, ys, rfl, _⟩ := h
    rfl
  · obtain ⟨p, q, xs, ys, rfl, hp, hq, hn, hP, k⟩ := h
    have hlen : xs.length = ys.length := Paired.length hP
    refine ⟨_, pss_cons (ps_if (pt_val (pe_callB call_isi (by rfl) B.isinstance (by decide +kernel) (pa_cons (pv 1) (pa_cons (pe_bltn (v := .ty "dict") (by rfl) B.dict (by decide +kernel) rfl) pa_nil)))) (pss_one ps_never) pss_nil)
      (pss_cons (ps_if (pt_val (pe_callB call_isiT (by rfl) B.isinstance (by decide +kernel) (pa_cons (pv 1) (pa_cons (pe_tup (pa_cons (pe_bltn (v := .ty "tuple") (by rfl) B.tuple (by decide +kernel) rfl) (pa_cons (pe_bltn (v := .ty "list") (by rfl) B.list (by decide +kernel) rfl) pa_nil))) pa_nil))))
        (pss_cons (ps_if (PW.pt (pw_or (pt_not (pt_val (pe_callB call_isiT (by rfl) B.isinstance (by decide +kernel) (pa_cons (pv 0) (pa_cons (pe_tup (pa_cons (pe_bltn (v := .ty "tuple") (by rfl) B.tuple (by decide +kernel) rfl) (pa_cons (pe_bltn (v := .ty "list") (by rfl) B.list (by decide +kernel) rfl) pa_nil))) pa_nil))))) (pw_or1 (pt_cmpR op_ne (pe_callB call_isi (by rfl) B.isinstance (by decide +kernel) (pa_cons (pv 0) (pa_cons (pe_bltn (v := .ty "list") (by rfl) B.list (by decide +kernel) rfl) pa_nil))) (pe_callB call_isi (by rfl) B.isinstance (by decide +kernel) (pa_cons (pv 1) (pa_cons (pe_bltn (v := .ty "list") (by rfl) B.list (by decide +kernel) rfl) pa_nil))) (nomark _))))) (pss_one ps_never) pss_nil)
        (pss_cons (ps_if (pt_cmpR op_ne (pe_callB call_len_seq (by rfl) B.len PySem.boot_len (pa_cons (pv 0) pa_nil)) (pe_callB call_len_seq (by rfl) B.len PySem.boot_len (pa_cons (pv 1) pa_nil)) (nomark _)) (pss_one ps_never) pss_nil)
        (pss_one (ps_ret (pe_cmpR (op_eqD hr.units) (pe_lc (own := [("_law_k", 2)]) (g := gName 2) (tt := ttSameDL K n) (te := tVar 2) rfl scAlike.nd (pi_range1 rfl B.range (pa_cons (pe_callB call_len_seq (by rfl) B.len PySem.boot_len (pa_cons (pv 1) pa_nil)) pa_nil)) (blkOk_by (N := nAlike) (sc := defScope sAlike) (by decide +kernel))
            (fun _ _ _ _ _ => pg_name (i := 2) scAlike.nd rfl (.inl rfl)) (fun _ _ _ _ _ => by exact (pts_one (pt_not (pt_val (pe_callR DI.ok hr rfl DI.at_ DI.kp pass0 (pa_cons (pe_ix ix_list (pv 0) (pv 2) (fun _ _ => rfl)) (pa_cons (pe_ix ix_list (pv 1) (pv 2) (fun _ _ => rfl)) pa_nil))))))) (fun _ _ _ _ _ => pv 2)) (pe_lst pa_nil) (nomark _)))))) pss_nil)
      (pss_cons ps_never (pss_one ps_never))), ?_⟩
    refine ⟨_, rfl, _, _, _, _, false, rfl, .ty "dict", .base (.lst hq), kit_ty (by decide +kernel), false, rfl, iteF ?_⟩
    refine ⟨_, rfl, by show 2 ≤ sizeLine; decide, fun t ht => ?_⟩
    have s1 : Same H (upd H t (.tup [.ty "tuple", .ty "list"])) := same_upd ht
    refine ⟨_, t, _, _, _, true, rfl, upd_same, .cons (.ty "tuple") (.cons (.ty "list") .nil), .base (.lst (s1 _ _ hq)), kit_yes (kit_ty (by decide +kernel)) (kit_ty (by decide +kernel)), true, rfl, iteT ?_⟩
    refine ⟨_, rfl, by show 2 ≤ sizeLine; decide, fun t2 ht2 => ?_⟩
    have s2 := s1.trans (same_upd (o := .tup [.ty "tuple", .ty "list"]) ht2)
    refine ⟨_, t2, _, _, _, true, rfl, upd_same, .cons (.ty "tuple") (.cons (.ty "list") .nil), .base (.lst (s2 _ _ hp)), kit_yes (kit_ty (by decide +kernel)) (kit_ty (by decide +kernel)), true, rfl, ?_⟩
    refine ⟨_, rfl, _, _, _, _, true, rfl, .ty "list", .base (.lst (s2 _ _ hp)), kit_ty (by decide +kernel), _, rfl, _, _, _, _, true, rfl, .ty "list", .base (.lst (s2 _ _ hq)), kit_ty (by decide +kernel), rfl, _, rfl, iteF ?_⟩
    refine ⟨_, rfl, p, _, rfl, .inl (SqL.of (s2 _ _ hp)), _, rfl, q, _, rfl, .inl (SqL.of (s2 _ _ hq)), rfl, _, rfl, ifF (by rw [hlen]; simp) ?_⟩
    refine ⟨_, rfl, q, _, rfl, .inl (SqL.of (s2 _ _ hq)), _, rfl, by omega, by omega, fun D hD => ?_⟩
    refine lc_range (lo := 0) (n := (((ys.length : Nat) : Int)).toNat) (fun i H' => Same H H' ∧ H' D = some (.lst [])) ⟨s2.trans (same_upd hD), upd_same⟩ ?_ ?_
    · rintro i H3 hi ⟨s3, e3⟩
      have hi' : i < ys.length := by omega
      obtain ⟨x, ex⟩ : ∃ x, xs[i]? = some x := ⟨_, List.getElem?_eq_getElem (by omega)⟩
      obtain ⟨y, ey⟩ : ∃ y, ys[i]? = some y := ⟨_, List.getElem?_eq_getElem hi'⟩
      have hxy := paired_at hP ex ey
      have ei : (0 : Int) + (i : Int) = ((i : Nat) : Int) := Int.zero_add _
      refine ⟨rfl, _, rfl, _, rfl, p, _, _, _, rfl, rfl, SqL.of (s3 _ _ hp), at_of (j := i) ei ex, _, rfl, _, rfl, q, _, _, _, rfl, rfl, SqL.of (s3 _ _ hq), at_of (j := i) ei ey, x, y, rfl, hxy.same s3, fun H4 s4 => ⟨true, rfl, ifF rfl ?_⟩⟩
      exact ⟨s3.trans s4, s4 _ _ e3⟩
    · rintro H3 ⟨s3, e3⟩
      refine ⟨by show 0 ≤ sizeLine; decide, fun D2 hD2 => ?_⟩
      have s4 := s3.trans (same_upd (o := .lst []) hD2)
      refine ⟨.list (([] : List Int).map PyData.int), .list (([] : List Int).map PyData.int), .lst (SqL.of ((same_upd hD2) _ _ e3)) (dp_ints []), .lst (SqL.of upd_same) (dp_ints []), shaped_list _, shaped_list _, ?_⟩
      rw [eqv_selfs]
      exact k _ s4
theorem ok_aliket {f : Addr} {fd : FuncData} (F : Fun K "_law_alike" "_law_alike" sAlike f fd) (B : Bt mg) {n : Nat} (DI : Dn P w K mg base (n + 1) "_law_alike" f (spAlike K n)) : FnOk P w K mg base CX0 (n + 1 + 1) f fd ["_law_found", "_law_due"] (spAlikeT K n) := by
  refine F.ok scAlike (fun vs H Q E h => ?_) (fun cdv A outer s H vs Q E hr h => ?_)
  · obtain ⟨p, q, xs, ys, rfl, _⟩ := h
    rfl
  · obtain ⟨p, q, xs, ys, rfl, hp, hq, hn, hP, k⟩ := h
    have hlen : xs.length = ys.length := Paired.length hP
    have gp : ∀ {H'}, Same H H' → SqT K H' p xs := fun s => hp _ (Fix.of s)
    have gq : ∀ {H'}, Same H H' → SqT K H' q ys := fun s => hq _ (Fix.of s)
    refine ⟨_, pss_cons (ps_if (pt_val (pe_callB call_isi (by rfl) B.isinstance (by decide +kernel) (pa_cons (pv 1) (pa_cons (pe_bltn (v := .ty "dict") (by rfl) B.dict (by decide +kernel) rfl) pa_nil)))) (pss_one ps_never) pss_nil)
      (pss_cons (ps_if (pt_val (pe_callB call_isiT (by rfl) B.isinstance (by decide +kernel) (pa_cons (pv 1) (pa_cons (pe_tup (pa_cons (pe_bltn (v := .ty "tuple") (by rfl) B.tuple (by decide +kernel) rfl) (pa_cons (pe_bltn (v := .ty "list") (by rfl) B.list (by decide +kernel) rfl) pa_nil))) pa_nil))))
        (pss_cons (ps_if (PW.pt (pw_or (pt_not (pt_val (pe_callB call_isiT (by rfl) B.isinstance (by decide +kernel) (pa_cons (pv 0) (pa_cons (pe_tup (pa_cons (pe_bltn (v := .ty "tuple") (by rfl) B.tuple (by decide +kernel) rfl) (pa_cons (pe_bltn (v := .ty "list") (by rfl) B.list (by decide +kernel) rfl) pa_nil))) pa_nil))))) (pw_or1 (pt_cmpR op_ne (pe_callB call_isi (by rfl) B.isinstance (by decide +kernel) (pa_cons (pv 0) (pa_cons (pe_bltn (v := .ty "list") (by rfl) B.list (by decide +kernel) rfl) pa_nil))) (pe_callB call_isi (by rfl) B.isinstance (by decide +kernel) (pa_cons (pv 1) (pa_cons (pe_bltn (v := .ty "list") (by rfl) B.list (by decide +kernel) rfl) pa_nil))) (nomark _))))) (pss_one ps_never) pss_nil)
        (pss_cons (ps_if (pt_cmpR op_ne (pe_callB call_len_seq (by rfl) B.len PySem.boot_len (pa_cons (pv 0) pa_nil)) (pe_callB call_len_seq (by rfl) B.len PySem.boot_len (pa_cons (pv 1) pa_nil)) (nomark _)) (pss_one ps_never) pss_nil)
        (pss_one (ps_ret (pe_cmpR (op_eqD hr.units) (pe_lc (own := [("_law_k", 2)]) (g := gName 2) (tt := ttSameDT K n) (te := tVar 2) rfl scAlike.nd (pi_range1 rfl B.range (pa_cons (pe_callB call_len_seq (by rfl) B.len PySem.boot_len (pa_cons (pv 1) pa_nil)) pa_nil)) (blkOk_by (N := nAlike) (sc := defScope sAlike) (by decide +kernel))
            (fun _ _ _ _ _ => pg_name (i := 2) scAlike.nd rfl (.inl rfl)) (fun _ _ _ _ _ => by exact (pts_one (pt_not (pt_val (pe_callR DI.ok hr rfl DI.at_ DI.kp pass0 (pa_cons (pe_ix ix_tup (pv 0) (pv 2) (fun _ _ => rfl)) (pa_cons (pe_ix ix_tup (pv 1) (pv 2) (fun _ _ => rfl)) pa_nil))))))) (fun _ _ _ _ _ => pv 2)) (pe_lst pa_nil) (nomark _)))))) pss_nil)
      (pss_cons ps_never (pss_one ps_never))), ?_⟩
    refine ⟨_, rfl, _, _, _, _, false, rfl, .ty "dict", sqT_ty (gq (Same.refl H)), kit_ty (by decide +kernel), false, rfl, iteF ?_⟩
    refine ⟨_, rfl, by show 2 ≤ sizeLine; decide, fun t ht => ?_⟩
    have s1 : Same H (upd H t (.tup [.ty "tuple", .ty "list"])) := same_upd ht
    refine ⟨_, t, _, _, _, true, rfl, upd_same, .cons (.ty "tuple") (.cons (.ty "list") .nil), sqT_ty (gq s1), kit_fst (kit_ty (by decide +kernel)), true, rfl, iteT ?_⟩
    refine ⟨_, rfl, by show 2 ≤ sizeLine; decide, fun t2 ht2 => ?_⟩
    have s2 := s1.trans (same_upd (o := .tup [.ty "tuple", .ty "list"]) ht2)
    refine ⟨_, t2, _, _, _, true, rfl, upd_same, .cons (.ty "tuple") (.cons (.ty "list") .nil), sqT_ty (gp s2), kit_fst (kit_ty (by decide +kernel)), true, rfl, ?_⟩
    refine ⟨_, rfl, _, _, _, _, false, rfl, .ty "list", sqT_ty (gp s2), kit_ty (by decide +kernel), _, rfl, _, _, _, _, false, rfl, .ty "list", sqT_ty (gq s2), kit_ty (by decide +kernel), rfl, _, rfl, iteF ?_⟩
    refine ⟨_, rfl, p, _, rfl, .inr (gp s2), _, rfl, q, _, rfl, .inr (gq s2), rfl, _, rfl, ifF (by rw [hlen]; simp) ?_⟩
    refine ⟨_, rfl, q, _, rfl, .inr (gq s2), _, rfl, by omega, by omega, fun D hD => ?_⟩
    refine lc_range (lo := 0) (n := (((ys.length : Nat) : Int)).toNat) (fun i H' => Same H H' ∧ H' D = some (.lst [])) ⟨s2.trans (same_upd hD), upd_same⟩ ?_ ?_
    · rintro i' H3 hi ⟨s3, e3⟩
      have ei : (0 : Int) + (i' : Int) = ((i' : Nat) : Int) := Int.zero_add _
      obtain ⟨x, ex⟩ : ∃ x, xs[i']? = some x := ⟨_, List.getElem?_eq_getElem (by omega)⟩
      obtain ⟨y, ey⟩ : ∃ y, ys[i']? = some y := ⟨_, List.getElem?_eq_getElem (by omega)⟩
      have hxy := paired_at hP ex ey
      refine ⟨rfl, _, rfl, _, rfl, p, _, _, _, rfl, rfl, gp s3, at_of (j := i') ei ex, _, rfl, _, rfl, q, _, _, _, rfl, rfl, gq s3, at_of (j := i') ei ey, x, y, rfl, hxy.same s3, fun H4 s4 => ⟨true, rfl, ifF rfl ?_⟩⟩
      exact ⟨s3.trans s4, s4 _ _ e3⟩
    · rintro H3 ⟨s3, e3⟩
      refine ⟨by show 0 ≤ sizeLine; decide, fun D2 hD2 => ?_⟩
      have s4 := s3.trans (same_upd (o := .lst []) hD2)
      refine ⟨.list (([] : List Int).map PyData.int), .list (([] : List Int).map PyData.int), .lst (SqL.of ((same_upd hD2) _ _ e3)) (dp_ints []), .lst (SqL.of upd_same) (dp_ints []), shaped_list _, shaped_list _, ?_⟩
      rw [eqv_selfs]
      exact k _ s4
theorem ok_alikeD {f : Addr} {fd : FuncData} (F : Fun K "_law_alike" "_law_alike" sAlike f fd) (B : Bt mg) (at_ : mg "_law_alike" = some (.ref f)) (kp : PySem.W.keepIn K (.ref f) = true) (hb : Binds K fd ["_law_found", "_law_due"] []) : ∀ n : Nat, FnOk P w K mg base CX0 (n + 1) f fd ["_law_found", "_law_due"] (spAlike K n)
  | 0 => ok_alike0 F B
  | n + 1 => by
    have A := ok_alikeD F B at_ kp hb n
    have D : Dn P w K mg base (n + 1) "_law_alike" f (spAlike K n) := ⟨at_, kp, (A.raw hb .nil).imp fun vs H Q E h => by rw [List.append_nil]; exact h⟩
    have L := ok_alikel F B D
    have T := ok_aliket F B D
    refine ⟨fun vs H Q E h => ?_, fun A' outer s H args us vs Q E hr e0 hbd r h => ?_⟩
    · obtain ⟨a, b, rfl, _⟩ := h
      rfl
    · obtain ⟨a, b, e, h, k⟩ := h
      rcases h with h | ⟨p, q, xs, ys, rfl, rfl, hn, hP, ⟨h1, h2⟩ | ⟨h1, h2⟩⟩
      · exact (A.mono (Nat.le_succ _)).run A' outer s H args us vs Q E hr e0 hbd r ⟨a, b, e, h, k⟩
      · exact L.run A' outer s H args us vs Q E hr e0 hbd r ⟨p, q, xs, ys, e, h1, h2, hn, hP, k⟩
      · exact T.run A' outer s H args us vs Q E hr e0 hbd r ⟨p, q, xs, ys, e, h1, h2, hn, hP, k⟩
end
end Cc

namespace Cc
open PySem PySem.Spec PyProof.Rows L2
abbrev sAStep : Stmt := top 24
abbrev sASteps : Stmt := top 25
def spAStep : Sp := fun vs H Q _ => ∃ (v : V) (s : Stp) (c r : Int), vs = [v, .int c, .int r] ∧ StepAt H v s ∧ ∀ p H', Same H H' → H' p = some (.tup [.int (stepF c s r).1, .int (stepF c s r).2]) → Q (.ref p) H'
def spASteps (K : PySem.W.Frag) : Sp := fun vs H Q _ => ∃ (t : Addr) (ws : List V) (ss : List Stp) (c r : Int), vs = [.ref t, .int c, .int r] ∧ SqT K H t ws ∧ (∀ H', Same H H' → SqT K H' t ws) ∧ Steps H ws ss ∧ ∀ p H', Same H H' → H' p = some (.tup [.int (stepsF c ss (r, 0)).1, .int (stepsF c ss (r, 0)).2]) → Q (.ref p) H'
section
variable {P : Program} {w : World} {K : PySem.W.Frag} {mg : Str → Option Value} {base : Heap} {C TU pS gS : Addr} {mc : Value}
theorem scAStep : FnScope ["step", "chairs", "red", "room", "need", "missing"] ["step", "chairs", "red"] (defScope sAStep) := ⟨rfl, rfl, rfl, by decide +kernel, rfl, by decide +kernel, by decide +kernel⟩
theorem ok_astep {f : Addr} {fd : FuncData} (F : Fun K "after_step" "after_step" sAStep f fd) (T : Txt K mg C TU pS gS mc) : FnOk P w K mg base CX0 1 f fd ["step", "chairs", "red"] spAStep := by
  refine F.ok scAStep (fun vs H Q E h => ?_) (fun cdv A outer s H vs Q E hr h => ?_)
  · obtain ⟨v, s, c, r, rfl, _⟩ := h
    rfl
  · obtain ⟨v, st, c, r, rfl, ⟨t, rfl, ht⟩, k⟩ := h
    refine ⟨_, pss_cons (ps_if (pt_cmpR (op_eqD hr.units) (pv 0) (pe_glob (v := .ref TU) rfl T.gT rfl) (nomark _)) (pss_one (ps_ret (pe_tup (pa_cons (pe_op op_sub (pv 1) (pv 2)) (pa_cons pe_int pa_nil))))) pss_nil)
      (pss_cons (ps_asg (pv 0) (pg_tup rfl (pgs_cons (pg_name (i := 3) scAStep.nd rfl (.inl rfl)) (pgs_cons (pg_name (i := 4) scAStep.nd rfl (.inl rfl)) pgs_nil))))
      (pss_cons (ps_if (pt_cmpR op_eq (pv 3) pe_str (nomark _))
        (pss_cons (ps_set (i := 5) scAStep.nd rfl (.inl rfl) (pe_callB (call_max2 rfl) (by rfl) T.b.max (by decide +kernel) (pa_cons pe_int (pa_cons (pe_op op_sub (pv 4) (pv 2)) pa_nil))))
        (pss_one (ps_ret (pe_tup (pa_cons (pe_op op_add (pv 2) (pv 5)) (pa_cons (pv 5) pa_nil)))))) pss_nil)
      (pss_cons (ps_set (i := 5) scAStep.nd rfl (.inl rfl) (pe_callB (call_max2 rfl) (by rfl) T.b.max (by decide +kernel) (pa_cons pe_int (pa_cons (pe_op op_sub (pv 4) (pe_op op_sub (pv 1) (pv 2))) pa_nil))))
      (pss_one (ps_ret (pe_tup (pa_cons (pe_op op_sub (pv 2) (pv 5)) (pa_cons (pv 5) pa_nil)))))))), ?_⟩
    cases st with
    | turn =>
      refine ⟨_, rfl, .tuple [.str "turn"], .tuple [.str "turn"], .tup (SqT.of ht) (.cons (.str _) .nil), .tup (T.tT _) (.cons (.str _) .nil), by decide +kernel, by decide +kernel, _, rfl, ?_⟩
      rw [eqv_turn]
      refine iteT ⟨_, rfl, _, rfl, _, _, rfl, rfl, by show 2 ≤ sizeLine; decide, fun p hp => ?_⟩
      exact k p _ (same_upd hp) upd_same
    | meet bb n =>
      refine ⟨_, rfl, .tuple [.str (roomS bb), .int n], .tuple [.str "turn"], .tup (SqT.of ht) (.cons (.str _) (.cons (.int _) .nil)), .tup (T.tT _) (.cons (.str _) .nil), shaped_meet bb n, by decide +kernel, _, rfl, ?_⟩
      rw [eqv_meet]
      refine iteF ⟨_, rfl, t, _, rfl, SqT.of ht, rfl, _, _, rfl, _, _, rfl, rfl, ?_⟩
      refine ⟨_, rfl, rfl, _, rfl, ?_⟩
      rw [room_eq]
      cases bb with
      | true =>
        refine iteT ⟨_, rfl, _, rfl, _, _, rfl, rfl, _, _, rfl, ?_⟩
        refine ⟨_, rfl, _, rfl, _, _, rfl, rfl, _, rfl, by show 2 ≤ sizeLine; decide, fun p hp => ?_⟩
        exact k p _ (same_upd hp) upd_same
      | false =>
        refine iteF ⟨_, rfl, _, rfl, _, rfl, _, _, rfl, rfl, _, _, rfl, rfl, _, _, rfl, ?_⟩
        refine ⟨_, rfl, _, rfl, _, _, rfl, rfl, _, rfl, by show 2 ≤ sizeLine; decide, fun p hp => ?_⟩
        exact k p _ (same_upd hp) upd_same
theorem scASteps : FnScope ["steps", "chairs", "red", "total", "step", "carried"] ["steps", "chairs", "red"] (defScope sASteps) := ⟨rfl, rfl, rfl, by decide +kernel, rfl, by decide +kernel, by decide +kernel⟩
theorem ok_asteps {f fA : Addr} {fd : FuncData} (F : Fun K "after_steps" "after_steps" sASteps f fd) (D : Dn P w K mg base 1 "after_step" fA spAStep) : FnOk P w K mg base CX0 2 f fd ["steps", "chairs", "red"] (spASteps K) := by
  refine F.ok scASteps (fun vs H Q E h => ?_) (fun cdv A outer s H vs Q E hr h => ?_)
  · obtain ⟨t, ws, ss, c, r, rfl, _⟩ := h
    rfl
  · obtain ⟨t, ws, ss, c, r, rfl, hT, hT2, hs, k⟩ := h
    refine ⟨_, pss_cons (ps_set (i := 3) scASteps.nd rfl (.inl rfl) pe_int)
      (pss_cons (ps_for PassesOwn.never rfl (pi_tup (pv 0)) (pg_name (i := 4) scASteps.nd rfl (.inl rfl))
        (pss_cons (ps_asg (pe_callR D.ok hr rfl D.at_ D.kp pass0 (pa_cons (pv 4) (pa_cons (pv 1) (pa_cons (pv 2) pa_nil)))) (pg_tup rfl (pgs_cons (pg_name (i := 2) scASteps.nd rfl (.inl rfl)) (pgs_cons (pg_name (i := 5) scASteps.nd rfl (.inl rfl)) pgs_nil))))
        (pss_one (ps_aug (i := 3) scASteps.nd rfl (.inl rfl) (pv 5) ip_add))))
      (pss_one (ps_ret (pe_tup (pa_cons (pv 2) (pa_cons (pv 3) pa_nil)))))), ?_⟩
    refine ⟨_, rfl, t, rfl, ⟨_, hT⟩, for_tup (K := K) (a := t) (xs := ws) (fun i σ H' => ∃ (x y : Option V), σ = [some (.ref t), some (.int c), some (.int (stepsF c (ss.take i) (r, 0)).1), some (.int (stepsF c (ss.take i) (r, 0)).2), x, y] ∧ Same H H')
      ⟨none, none, rfl, Same.refl H⟩ (fun i σ H' _ ⟨_, _, _, s1⟩ => hT2 _ s1) ?_ ?_⟩
    · rintro i v σ H' hi ⟨x, y, rfl, s1⟩
      obtain ⟨st, hst, q, rfl, hq⟩ := hs.get hi
      refine ⟨_, rfl, _, rfl, _, rfl, _, st, c, _, rfl, ⟨q, rfl, s1 _ _ hq⟩, fun p H2 s2 e2 => ?_⟩
      refine ⟨p, _, rfl, SqT.of e2, rfl, _, _, rfl, _, _, rfl, rfl, ?_⟩
      refine ⟨_, rfl, _, rfl, _, _, rfl, rfl, ?_⟩
      refine ⟨some (.ref q), some (.int (stepF c st (stepsF c (ss.take i) (r, 0)).1).2), ?_, s1.trans s2⟩
      rw [take_more hst, stepsF_one]
      rfl
    · rintro σ H' ⟨x, y, rfl, s1⟩
      rw [hs.length, List.take_length]
      refine ⟨_, rfl, _, rfl, by show 2 ≤ sizeLine; decide, fun p hp => ?_⟩
      exact k p _ (s1.trans (same_upd hp)) upd_same
end
end Cc

/-! The steps of all rounds, cut; two meetings for all chairs. -/
namespace Cc
open PySem PySem.Spec PyProof.Rows L2
theorem cycF_cons (ss : List Stp) (k n : Nat) : cycF ss k (n + 1) = ss.getD (k % ss.length) .turn :: cycF ss (k + 1) n := by
  unfold cycF
  rw [List.range_succ_eq_map, List.map_cons, List.map_map]; refine congrArg _ (List.map_congr_left fun i _ => ?_)
  show ss.getD ((k + (i + 1)) % ss.length) .turn = ss.getD ((k + 1 + i) % ss.length) .turn
  rw [show k + (i + 1) = k + 1 + i by omega]
theorem cycF_app (ss : List Stp) : ∀ (n k m : Nat), cycF ss k (n + m) = cycF ss k n ++ cycF ss (k + n) m
  | 0, k, m => by
    rw [Nat.zero_add]
    rfl
  | n + 1, k, m => by
    rw [show n + 1 + m = (n + m) + 1 by omega, cycF_cons, cycF_cons, cycF_app ss n (k + 1) m, List.cons_append, show k + 1 + n = k + (n + 1) by omega]
theorem cycF_mod (ss : List Stp) (k m : Nat) : cycF ss (k % ss.length) m = cycF ss k m := by
  unfold cycF
  refine List.map_congr_left fun i _ => ?_; rw [Nat.mod_add_mod]
theorem carryF_app (c : Int) : ∀ (a b : List Stp) (r : Int), carryF c (a ++ b) r = carryF c a r ++ carryF c b (stepsF c a (r, 0)).1
  | [], _, _ => rfl
  | s :: a, b, r => by
    show (stepF c s r).2 :: carryF c (a ++ b) (stepF c s r).1 = (stepF c s r).2 :: (carryF c a (stepF c s r).1 ++ carryF c b (stepsF c a ((stepF c s r).1, 0 + (stepF c s r).2)).1)
    rw [carryF_app c a b, stepsF_fst c a (stepF c s r).1 (0 + (stepF c s r).2) 0]
theorem flat_rounds (c : Int) (ss : List Stp) : ∀ (n : Nat) (y : Int × Int), stepsF c (List.replicate n ss).flatten y = roundsF c ss n y
  | 0, _ => rfl
  | n + 1, y => by
    rw [List.replicate_succ, List.flatten_cons, stepsF_app, flat_rounds c ss n]
    rfl
theorem flat_len (ss : List Stp) (n : Nat) : (List.replicate n ss).flatten.length = n * ss.length := by
  rw [List.length_flatten, List.map_replicate, List.sum_replicate_nat]
theorem flat_cyc (ss : List Stp) (n : Nat) : (List.replicate n ss).flatten = cycF ss 0 (n * ss.length) := by
  rw [← rep_take (ss := ss) (k := n) (n := n * ss.length) (Nat.le_refl _), List.take_of_length_le (Nat.le_of_eq (flat_len ss n))]
/-- where the red room stands behind k steps -/
theorem reach_is {c x : Int} {ss : List Stp} (hs : ∀ s ∈ ss, s.ok c) (hne : ss ≠ []) (x0 : 0 ≤ x) (x1 : x ≤ c) (k : Nat) :
    (stepsF c (ss.take (k % ss.length)) ((afterF c ss x (k / ss.length)).1, 0)).1 = (stepsF c (cycF ss 0 k) (x, 0)).1 := by
  have pos : 0 < ss.length := List.length_pos_iff.mpr hne
  have lt : k % ss.length < ss.length := Nat.mod_lt _ pos
  have e : k = k / ss.length * ss.length + k % ss.length := (Nat.div_add_mod' k ss.length).symm
  have h1 : cycF ss 0 k = (List.replicate (k / ss.length) ss).flatten ++ ss.take (k % ss.length) := by
    have h2 : cycF ss (k / ss.length * ss.length) (k % ss.length) = ss.take (k % ss.length) := by
      rw [← cycF_mod, Nat.mul_mod_left, ← rep_take (ss := ss) (k := 1) (by omega)]
      simp
    calc cycF ss 0 k = cycF ss 0 (k / ss.length * ss.length + k % ss.length) := congrArg _ e
      _ = _ := by rw [cycF_app, Nat.zero_add, h2, ← flat_cyc]
  rw [h1, stepsF_app, flat_rounds, afterF_is hs x0 x1]
  exact stepsF_fst c _ _ _ _
/-- some of what all rounds carry -/
theorem carried_cut {c x : Int} {ss : List Stp} (hs : ∀ s ∈ ss, s.ok c) (hne : ss ≠ []) (x0 : 0 ≤ x) (x1 : x ≤ c) {n k m : Nat} (h : k + m ≤ n * ss.length) :
    ((carryF c (List.replicate n ss).flatten x).drop k).take m = carryF c (cycF ss (k % ss.length) m) (stepsF c (ss.take (k % ss.length)) ((afterF c ss x (k / ss.length)).1, 0)).1 := by
  rw [reach_is hs hne x0 x1, cycF_mod, flat_cyc, show n * ss.length = k + (m + (n * ss.length - (k + m))) by omega, cycF_app, cycF_app, carryF_app, carryF_app, Nat.zero_add]
  rw [List.drop_append_of_le_length (by rw [carryF_len, cycF_len]; omega), List.drop_of_length_le (by rw [carryF_len, cycF_len]; omega), List.nil_append, List.take_append_of_le_length (by rw [carryF_len, cycF_len]; omega), List.take_of_length_le (by rw [carryF_len, cycF_len]; omega)]
/-! ### two meetings for all chairs -/
def altN (n : Int) : List Stp := [.meet true n, .meet false n]
theorem altN_get (n : Int) (k : Nat) : (altN n).getD (k % (altN n).length) .turn = if k % 2 = 0 then .meet true n else .meet false n := by
  show (altN n).getD (k % 2) .turn = _
  rcases Nat.mod_two_eq_zero_or_one k with h | h <;> rw [h] <;> rfl
theorem alt_carry {n : Int} (n0 : 0 ≤ n) : ∀ (m k : Nat) (r : Int), r = (if k % 2 = 0 then 0 else n) → carryF n (cycF (altN n) k m) r = List.replicate m n
  | 0, _, _, _ => rfl
  | m + 1, k, r, h => by
    rw [cycF_cons, altN_get]
    by_cases q : k % 2 = 0
    · rw [if_pos q] at h ⊢
      subst h
      have e : stepF n (.meet true n) 0 = (n, n) := by
        simp only [stepF, mx_eq, Prod.mk.injEq]
        omega
      show (stepF n (.meet true n) 0).2 :: carryF n (cycF (altN n) (k + 1) m) (stepF n (.meet true n) 0).1 = _
      rw [e, alt_carry n0 m (k + 1) n (by rw [if_neg (by omega)]), List.replicate_succ]
    · rw [if_neg q] at h ⊢
      subst h
      have e : stepF r (.meet false r) r = (0, r) := by
        simp only [stepF, mx_eq, Prod.mk.injEq]
        omega
      show (stepF r (.meet false r) r).2 :: carryF r (cycF (altN r) (k + 1) m) (stepF r (.meet false r) r).1 = _
      rw [e, alt_carry n0 m (k + 1) 0 (by rw [if_pos (by omega)]), List.replicate_succ]
theorem alt_step {n : Int} (n0 : 0 ≤ n) : ∀ (k : Nat), (stepsF n (cycF (altN n) 0 k) (0, 0)).1 = if k % 2 = 0 then 0 else n
  | 0 => rfl
  | k + 1 => by
    rw [cycF_succ, stepsF_one, alt_step n0 k, Nat.zero_add, altN_get]
    by_cases q : k % 2 = 0
    · rw [if_pos q, if_pos q, if_neg (by omega)]
      simp only [stepF, mx_eq]
      omega
    · rw [if_neg q, if_neg q, if_pos (by omega)]
      simp only [stepF, mx_eq]
      omega
theorem alt_ok {n : Int} (n0 : 0 ≤ n) : ∀ s ∈ altN n, s.ok n := fun s h => by
  rcases List.mem_cons.mp h with rfl | h2
  · exact ⟨n0, Int.le_refl n⟩
  · rw [List.mem_singleton.mp h2]
    exact ⟨n0, Int.le_refl n⟩
/-- all steps of such a plan carry all chairs -/
theorem alt_outs {n : Int} (n0 : 0 ≤ n) (k m : Nat) : carryF n (cycF (altN n) (k % (altN n).length) m) (stepsF n ((altN n).take (k % (altN n).length)) ((afterF n (altN n) 0 (k / (altN n).length)).1, 0)).1 = List.replicate m n := by
  rw [reach_is (alt_ok n0) (fun z => nomatch z) (Int.le_refl 0) n0, cycF_mod, alt_step n0]
  exact alt_carry n0 m k _ rfl
theorem ints_cut (ns : List Int) {a b : Nat} (h : b ≤ ns.length) : cutV (ns.map V.int) (some (a : Int)) (some (b : Int)) = (((ns.drop a).take (b - a)).map V.int) := by
  unfold cutV
  rw [HT.sIx_nat, HT.sIx_nat, List.length_map, Nat.min_eq_left h, List.map_take, List.map_drop]
  by_cases q : a ≤ ns.length
  · rw [Nat.min_eq_left q]
  · rw [Nat.min_eq_right (by omega), List.drop_of_length_le (by rw [List.length_map]; omega), List.drop_of_length_le (by rw [List.length_map]; omega)]
    simp
theorem rep_ints (n : Int) : ∀ k : Nat, (List.replicate k [V.int n]).flatten = (List.replicate k n).map V.int
  | 0 => rfl
  | k + 1 => by
    rw [List.replicate_succ, List.flatten_cons, rep_ints n k, List.replicate_succ]
    rfl
end Cc

/-! tuple * int, the number from 0 on. -/
namespace Cc
open PySem PySem.Spec PyProof.Rows L2
theorem tup_mul_self (l : Addr) (items : Array Value) (n : Nat) (dd : Option Addr) (sl : Array (Option Value)) (x : Int) (u : Tok) (c0 : (decide (x < -(2 ^ 63)) || decide (x ≥ 2 ^ 63)) = false) (c1 : (items.isEmpty || x == 1) = true) :
    Meets (Builtin.«tuple.__mul__» ⟨[.ref l, .int x u], []⟩) (fun _ R s => s.heap.get? l = some { cls := .type "tuple", dict := dd, data := .seq items n, slots := sl } ∧ R (.ok (.ret (.ref l))) s) := .of_wp fun prog w A R s h => by
    obtain ⟨hp, g, d, tk, os⟩ := s; obtain ⟨hl, h⟩ := h; have f1 := AutoSeq1.idx_int
    have ht : Shared.TypeIs ⟨hp, g, d, tk, os⟩ (.ref l) "tuple" := ⟨_, hl, rfl⟩
    (wp_walk using wpAny_loadPart' hl)
    repeat (first
      | ((refine wpAny_ite_false (decide_eq_false (by rw [c0]; exact Bool.false_ne_true)) ?_; wp_walk using wpAny_loadPart' hl))
      | (refine wpAny_ite_true (decide_eq_true c1) ?_; wp_walk using wpAny_loadPart' hl))
    exact ⟨_, rfl, h⟩
theorem tup_mul_none (l : Addr) (items : Array Value) (n : Nat) (dd : Option Addr) (sl : Array (Option Value)) (x : Int) (u : Tok) (c0 : (decide (x < -(2 ^ 63)) || decide (x ≥ 2 ^ 63)) = false) (c1 : (items.isEmpty || x == 1) = false) (c2 : (decide (x ≤ 0) || items.isEmpty) = true) : Meets (Builtin.«tuple.__mul__» ⟨[.ref l, .int x u], []⟩) (fun _ R s => s.heap.get? l = some { cls := .type "tuple", dict := dd, data := .seq items n, slots := sl } ∧
      R (.ok (.ret (Value.ref s.heap.objs.size))) { s with heap := s.heap.push { cls := Value.type "tuple", data := Data.seq #[] }, toks := s.toks }) := .of_wp fun prog w A R s h => by
    obtain ⟨hp, g, d, tk, os⟩ := s; obtain ⟨hl, h⟩ := h; have f1 := AutoSeq1.idx_int
    have ht : Shared.TypeIs ⟨hp, g, d, tk, os⟩ (.ref l) "tuple" := ⟨_, hl, rfl⟩
    (wp_walk using wpAny_loadPart' hl)
    repeat (first
      | (refine wpAny_ite_false (decide_eq_false (by rw [c0]; exact Bool.false_ne_true)) ?_; wp_walk using wpAny_loadPart' hl) | (refine wpAny_ite_false (decide_eq_false (by rw [c1]; exact Bool.false_ne_true)) ?_; wp_walk using wpAny_loadPart' hl)
      | (refine wpAny_ite_true (decide_eq_true c2) ?_; wp_walk using wpAny_loadPart' hl))
    exact ⟨_, rfl, h⟩
/-- t * k, k from 0 on: the same object, or a new one -/
def rRepG (K : PySem.W.Frag) : R2 := fun x y H Q => ∃ l k xs, x = .ref l ∧ y = .int k ∧ SqT K H l xs ∧ 0 ≤ k ∧ k ≤ 1000 ∧ xs.length ≤ 1000 ∧
  ((List.replicate k.toNat xs).flatten = xs → Q (.ref l) H) ∧ ∀ p, H p = none → Q (.ref p) (upd H p (.tup (List.replicate k.toNat xs).flatten))
theorem flat_none {α : Type} : ∀ n : Nat, (List.replicate n ([] : List α)).flatten = []
  | 0 => rfl
  | n + 1 => by
    rw [List.replicate_succ, List.flatten_cons, flat_none n]
    rfl
section
variable {X : Cx}
theorem op_repG : OpR X (binaryOp .Mult) (rRepG X.K) := by
  intro pins s σ H x y v u Q I rx ry h; obtain ⟨l, k, xs, rfl, rfl, hT, h0, h1, hz, q1, q2⟩ := h
  by_cases big : xs ≠ [] ∧ 2 ≤ k
  · exact op_repT pins s σ H _ _ v u Q I rx ry ⟨l, k, xs, rfl, rfl, hT, big.1, big.2, h1, hz, q2⟩
  · cases rx
    obtain ⟨t, rfl⟩ := ry
    obtain ⟨its, r, ⟨⟨cls, dd, data, sl⟩, ho, hc, n, hd⟩, hs⟩ := I.tuple hT; simp only at hc hd
    subst hc hd
    have hle : its.length = xs.length := r.length.symm; have c0 : (decide (k < -(2 ^ 63)) || decide (k ≥ 2 ^ 63)) = false := by
      (rw [decide_eq_false (by omega), decide_eq_false (by omega)] <;> rfl)
    by_cases sm : xs = [] ∨ k = 1
    · have c1 : (its.toArray.isEmpty || k == 1) = true := by
        rcases sm with e | e
        · subst e
          have : its = [] := List.eq_nil_of_length_eq_zero hle
          subst this
          rfl
        · subst e
          simp
      have ef : (List.replicate k.toNat xs).flatten = xs := by
        rcases sm with e | e
        · subst e
          exact flat_none _
        · subst e
          simp
      refine wpAny_binaryOp_repeat_ref (T := "tuple") (U := "int") (by decide) ⟨_, ho, rfl⟩ (fun s' => typeIs_int s' k t) noFill_tuple_mul F.fills_int_mul F.slot_int_rmul repeat_tuple F.slot_int_index.lookup (call_meets F.slot_int_rmul (typeIs_int s k t) F.entry_int_rmul (F.args_int_rmul_2 _ _) (int_rmul_tuple k t l its.toArray n dd sl)
          ⟨ho, rfl, ⟨_, ho, rfl⟩, call_meets F.slot_tuple_mul ⟨_, ho, rfl⟩ F.entry_tuple_mul (F.args_tuple_mul_2 _ _) (tup_mul_self l its.toArray n dd sl k t c0 c1) ⟨ho, ?_⟩⟩)
      exact ⟨.ref l, _, I, rfl, q1 ef⟩
    · have hne : xs ≠ [] := fun e => sm (.inl e)
      have k0 : k = 0 := by
        have : k ≠ 1 := fun e => sm (.inr e)
        have : ¬ 2 ≤ k := fun e => big ⟨hne, e⟩
        omega
      subst k0; have hn : its ≠ [] := fun e => hne (by
        rw [e] at hle; exact List.eq_nil_of_length_eq_zero hle.symm)
      have hi : (its.toArray.isEmpty = false) := by
        cases its with
        | nil => exact absurd rfl hn
        | cons a b => rfl
      have c1 : (its.toArray.isEmpty || (0 : Int) == 1) = false := by rw [hi]; rfl
      refine wpAny_binaryOp_repeat_ref (T := "tuple") (U := "int") (by decide) ⟨_, ho, rfl⟩ (fun s' => typeIs_int s' 0 t) noFill_tuple_mul F.fills_int_mul F.slot_int_rmul repeat_tuple F.slot_int_index.lookup
        (call_meets F.slot_int_rmul (typeIs_int s 0 t) F.entry_int_rmul (F.args_int_rmul_2 _ _) (int_rmul_tuple 0 t l its.toArray n dd sl)
          ⟨ho, rfl, ⟨_, ho, rfl⟩, call_meets F.slot_tuple_mul ⟨_, ho, rfl⟩ F.entry_tuple_mul (F.args_tuple_mul_2 _ _) (tup_mul_none l its.toArray n dd sl 0 t c0 c1 rfl) ⟨ho, ?_⟩⟩)
      refine ⟨.ref s.heap.objs.size, _, I.laid (t' := s.toks) (o := .tup []) (fun b ob q => Heap.get?_push_of_some _ q) (Nat.le_refl _) ?_, rfl, q2 _ (I.hok.fresh (Nat.le_refl _))⟩
      exact ⟨Nat.zero_le _, _, .nil, IsTup.new _ _⟩
end
/-- step == TURN -/
def isT : Stp → Bool
  | .turn => true
  | .meet _ _ => false
def rTurn (K : PySem.W.Frag) : R2 := fun x y Hh Qz => ∃ t st p, x = .ref t ∧ Hh t = some (.tup (stpV st)) ∧ y = .ref p ∧ SqT K Hh p [.str "turn"] ∧ Qz (.bl (isT st)) Hh
theorem op_eqTurn {X : Cx} (hu : X.A.units + 64 < cLine) : OpR X (compareOp .Eq) (rTurn X.K) := by
  intro pins s σ H x y v u Q I rx ry h; obtain ⟨t, st, p, rfl, ht, rfl, hp, q⟩ := h
  refine op_eqD hu pins s σ H _ _ v u Q I rx ry ?_
  cases st with
  | turn =>
    refine ⟨.tuple [.str "turn"], .tuple [.str "turn"], .tup (SqT.of ht) (.cons (.str _) .nil), .tup hp (.cons (.str _) .nil), by decide +kernel, by decide +kernel, ?_⟩
    rw [eqv_turn]
    exact q
  | meet b n =>
    refine ⟨.tuple [.str (roomS b), .int n], .tuple [.str "turn"], .tup (SqT.of ht) (.cons (.str _) (.cons (.int _) .nil)), .tup hp (.cons (.str _) .nil), shaped_meet b n, by decide +kernel, ?_⟩
    rw [eqv_meet]
    exact q
end Cc

namespace Cc
open PySem PySem.Spec PyProof.Rows L2
/-- few_rounds -/
def fewF (n : Int) : Int := if n < 2 then n else 2 + n % 2
def spFew : Sp := fun vs H Q _ => ∃ (n : Int), vs = [.int n] ∧ Q (.int (fewF n)) H
def spARounds (C : Addr) : Sp := fun vs H Q _ => ∃ (p : Addr) (ss : List Stp) (c r n : Int), vs = [.ref p, .int c, .int r, .int n] ∧ PlanAt C H p ss ∧ ss.length ≤ 60 ∧ (∀ s ∈ ss, s.ok c) ∧ 0 ≤ r ∧ r ≤ c ∧ 0 ≤ n ∧ n ≤ 1000000000000000000 ∧
  ∀ q H', Same H H' → H' q = some (.tup [.int (afterF c ss r n.toNat).1, .int (afterF c ss r n.toNat).2]) → Q (.ref q) H'
/-- the steps of a plan, read -/
theorem PlanAt.tup {K : PySem.W.Frag} {C : Addr} {H : Hp} {p : Addr} {ss : List Stp} (h : PlanAt C H p ss) : ∃ dx tp ws, H p = some (.ins C dx [("step_tuple", .ref tp)]) ∧ SqT K H tp ws ∧ (∀ H', Same H H' → SqT K H' tp ws) ∧ Steps H ws ss :=
  let ⟨dx, tp, ws, a, b, d⟩ := h
  ⟨dx, tp, ws, a, b.sq, fun H' s => (b.same s).sq, d⟩
/-- steps again and again -/
theorem rep_steps {K : PySem.W.Frag} {H : Hp} {tp : Addr} {ws : List V} {ss : List Stp} {n : Int} {Q : VK} (h : SqT K H tp ws) (hk : ∀ H', Same H H' → SqT K H' tp ws) (hs : Steps H ws ss) (n0 : 0 ≤ n) (n1 : n ≤ 1000) (hl : ss.length ≤ 1000)
    (k : ∀ q us H', Same H H' → SqT K H' q us → (∀ H2, Same H' H2 → SqT K H2 q us) → Steps H' us (List.replicate n.toNat ss).flatten → Q (.ref q) H') : rRepG K (.ref tp) (.int n) H Q :=
  ⟨tp, n, ws, rfl, rfl, h, n0, n1, by rw [hs.length]; exact hl, fun e => k tp ws H (Same.refl H) h hk (by have z := hs.rep n.toNat; rw [e] at z; exact z),
    fun p hp => k p _ _ (same_upd hp) (SqT.of upd_same) (fun H2 s2 => SqT.of (s2 _ _ upd_same)) ((hs.rep n.toNat).same (same_upd hp))⟩
section
variable {P : Program} {w : World} {K : PySem.W.Frag} {mg : Str → Option Value} {base : Heap} {C TU pS gS : Addr} {mc : Value}
abbrev s_few_rounds : Stmt := top 27
abbrev n_few_rounds : List Str := ["rounds"]
theorem sc_few_rounds : FnScope n_few_rounds ["rounds"] (defScope s_few_rounds) := ⟨rfl, rfl, rfl, by decide +kernel, rfl, by decide +kernel, by decide +kernel⟩
theorem ok_few_rounds {f : Addr} {fd : FuncData} (F : Fun K "few_rounds" "few_rounds" s_few_rounds f fd)  : FnOk P w K mg base CX0 1 f fd ["rounds"] spFew := by
  refine F.ok sc_few_rounds (fun vs H Q E h => ?_) (fun cdv A outer s H vs Q E hr h => ?_)
  · obtain ⟨n, rfl, _⟩ := h
    rfl
  · obtain ⟨n, rfl, k⟩ := h
    refine ⟨_, pss_one (ps_ret (pe_ifExp (pt_cmpR op_lt (pv 0) pe_int (nomark _)) (pv 0) (pe_op op_add pe_int (pe_op op_mod (pv 0) pe_int)))), ?_⟩
    refine ⟨_, rfl, _, _, rfl, rfl, _, rfl, ?_⟩
    unfold fewF at k
    by_cases q : n < 2
    · rw [if_pos q] at k
      exact ifT (decide_eq_true q) ⟨_, rfl, k⟩
    · rw [if_neg q] at k
      exact ifF (decide_eq_false q) ⟨_, rfl, _, _, rfl, rfl, (by show (0 : Int) < 2; decide), _, _, rfl, rfl, k⟩
abbrev s_after_rounds : Stmt := top 26
abbrev n_after_rounds : List Str := ["plan", "chairs", "red", "rounds", "few", "total", "carried"]
theorem sc_after_rounds : FnScope n_after_rounds ["plan", "chairs", "red", "rounds"] (defScope s_after_rounds) := ⟨rfl, rfl, rfl, by decide +kernel, rfl, by decide +kernel, by decide +kernel⟩
theorem ok_after_rounds {f f_few_rounds f_after_steps : Addr} {fd fdS : FuncData} (F : Fun K "after_rounds" "after_rounds" s_after_rounds f fd) (T : Txt K mg C TU pS gS mc) (G : Gs P w K mg base C gS fdS) (D_few_rounds : Dn P w K mg base 1 "few_rounds" f_few_rounds spFew) (D_after_steps : Dn P w K mg base 2 "after_steps" f_after_steps (spASteps K)) : FnOk P w K mg base CX0 3 f fd ["plan", "chairs", "red", "rounds"] (spARounds C) := by
  refine F.ok sc_after_rounds (fun vs H Q E h => ?_) (fun cdv A outer s H vs Q E hr h => ?_)
  · obtain ⟨p, ss, c, r, n, rfl, _⟩ := h
    rfl
  · obtain ⟨p, ss, c, r, n, rfl, hp, hl, hs, r0, r1, h0, h1, k⟩ := h
    refine ⟨_, pss_cons (ps_set (i := 4) sc_after_rounds.nd rfl (.inl rfl) (pe_callR D_few_rounds.ok (hr.mono (by decide)) rfl D_few_rounds.at_ D_few_rounds.kp pass0 (pa_cons (pv 3) pa_nil)))
      (pss_cons (ps_asg (pe_callR D_after_steps.ok (hr.mono (by decide)) rfl D_after_steps.at_ D_after_steps.kp pass0 (pa_cons (pe_op op_repG (pe_prop (pv 0) T.cl T.pr G.ok (hr.mono (by decide)) G.b .nil pass0 rfl) (pv 4)) (pa_cons (pv 1) (pa_cons (pv 2) pa_nil)))) (pg_tup rfl (pgs_cons (pg_name (i := 2) sc_after_rounds.nd rfl (.inl rfl)) (pgs_cons (pg_name (i := 5) sc_after_rounds.nd rfl (.inl rfl)) pgs_nil))))
      (pss_cons (ps_if (pt_cmpR op_lt (pv 4) (pv 3) (nomark _))
        (pss_cons (ps_asg (pe_callR D_after_steps.ok (hr.mono (by decide)) rfl D_after_steps.at_ D_after_steps.kp pass0 (pa_cons (pe_op op_repG (pe_prop (pv 0) T.cl T.pr G.ok (hr.mono (by decide)) G.b .nil pass0 rfl) pe_int) (pa_cons (pv 1) (pa_cons (pv 2) pa_nil)))) (pg_tup rfl (pgs_cons (pg_name (i := 2) sc_after_rounds.nd rfl (.inl rfl)) (pgs_cons (pg_name (i := 6) sc_after_rounds.nd rfl (.inl rfl)) pgs_nil))))
        (pss_one (ps_aug (i := 5) sc_after_rounds.nd rfl (.inl rfl) (pe_op op_mul (pe_op op_fdiv (pe_op op_sub (pv 3) (pv 4)) pe_int) (pv 6)) ip_add))) pss_nil)
      (pss_one (ps_ret (pe_tup (pa_cons (pv 2) (pa_cons (pv 5) pa_nil))))))), ?_⟩
    refine ⟨_, rfl, n, rfl, ?_⟩
    obtain ⟨m, hm⟩ : ∃ m : Nat, n = (m : Int) := ⟨n.toNat, by omega⟩
    obtain ⟨fw, hfw⟩ : ∃ fw : Nat, fewF n = (fw : Int) := ⟨(fewF n).toNat, by unfold fewF; split <;> omega⟩
    have hfm : fw = if m < 2 then m else 2 + m % 2 := by
      unfold fewF at hfw
      split at hfw <;> split <;> omega
    rw [hfw]
    have fw3 : fw ≤ 3 := by split at hfm <;> omega
    obtain ⟨dx, tp, ws, e1, e2, e3, e4⟩ := hp.tup (K := K)
    refine ⟨_, rfl, p, dx, _, rfl, e1, p, dx, _, _, rfl, e1, lk_self, _, rfl, rep_steps e2 e3 e4 (by omega) (by omega) (by omega) fun q us H1 s1 g1 g2 g3 => ?_⟩
    rw [Int.toNat_natCast] at g3
    refine ⟨_, rfl, _, rfl, q, us, _, c, r, rfl, g1, g2, g3, fun t H2 s2 g4 => ?_⟩
    rw [flat_rounds] at g4
    have s02 := s1.trans s2
    refine ⟨t, _, rfl, SqT.of g4, rfl, _, _, rfl, _, _, rfl, rfl, ?_⟩
    refine ⟨_, rfl, _, rfl, _, _, rfl, rfl, _, rfl, ?_⟩
    rw [hm, Int.toNat_natCast] at k
    by_cases c2 : 2 ≤ m ∧ fw < m
    · refine ifT (decide_eq_true (by omega)) ?_
      have hk := few_is hs r0 r1 (n := m) c2.1
      rw [if_neg (by omega)] at hfm
      rw [← hfm] at hk
      obtain ⟨dx, tp, ws, e1, e2, e3, e4⟩ := (hp.same s02).tup (K := K)
      refine ⟨_, rfl, p, dx, _, rfl, e1, p, dx, _, _, rfl, e1, lk_self, ?_⟩
      dsimp only [tC]
      refine rep_steps e2 e3 e4 (by omega) (by omega) (by omega) fun q us H3 s3 g1 g2 g3 => ?_
      have e5 : (List.replicate (2 : Int).toNat ss).flatten = ss ++ ss := by
        show ss ++ (ss ++ []) = ss ++ ss
        rw [List.append_nil]
      rw [e5] at g3
      refine ⟨_, rfl, _, rfl, q, us, _, c, _, rfl, g1, g2, g3, fun t H4 s4 g5 => ?_⟩
      refine ⟨t, _, rfl, SqT.of g5, rfl, _, _, rfl, _, _, rfl, rfl, ?_⟩
      refine ⟨_, rfl, _, rfl, _, rfl, _, _, rfl, rfl, _, _, rfl, rfl, ⟨by decide, by decide⟩, _, rfl, _, _, rfl, rfl, .inl ⟨by omega, by omega⟩, _, _, rfl, rfl, ?_⟩
      refine ⟨_, rfl, _, rfl, by show 2 ≤ sizeLine; decide, fun z hz => ?_⟩
      refine k z _ ((s02.trans (s3.trans s4)).trans (same_upd hz)) ?_
      have e6 : ((m : Int) - (fw : Int)) / 2 = (((m - fw) / 2 : Nat) : Int) := by omega
      rw [hk, hm, e6]
      exact upd_same
    · have e6 : m = fw := by
        split at hfm <;> omega
      refine ifF (decide_eq_false (by omega)) ?_
      refine ⟨_, rfl, _, rfl, by show 2 ≤ sizeLine; decide, fun z hz => ?_⟩
      refine k z _ (s02.trans (same_upd hz)) ?_
      unfold afterF
      rw [e6]
      exact upd_same
end
end Cc

/-! Own rules: count of a list, of a tuple; what is never reached; isinstance of a caught error. -/
namespace Cc
open PySem PySem.Spec PyProof.Rows L2
theorem room65 {k : Nat} {A : Around} (hr : Room k A) : A.units + 65 < cLine := by
  have := hr.un
  omega
/-- what is never reached -/
theorem pe_never {X : Cx} {e : Expr} : PE X e (fun _ _ _ => False) := ⟨fun _ _ _ _ _ _ h => h.elim⟩
def rCountL (K : PySem.W.Frag) : V → List V → Hp → VK → Prop := fun x xs H Q => ∃ (a : Addr) (ys : List V) (y : V) (d : PyData) (ds : List PyData), x = V.ref a ∧ xs = [y] ∧ SqL K H a ys ∧ DpAll K H ys ds ∧ Dp K H y d ∧
  SeqAt.shaped (.list ds) = true ∧ SeqAt.shaped d = true ∧ PyData.plainAll ds = true ∧ d.plain = true ∧ Q (.int ((ds.countP fun z => PyData.eqv z d : Nat) : Int)) H
def rCountT (K : PySem.W.Frag) : V → List V → Hp → VK → Prop := fun x xs H Q => ∃ (a : Addr) (ys : List V) (y : V) (d : PyData) (ds : List PyData), x = V.ref a ∧ xs = [y] ∧ SqT K H a ys ∧ DpAll K H ys ds ∧ Dp K H y d ∧
  SeqAt.shaped (.list ds) = true ∧ SeqAt.shaped d = true ∧ PyData.plainAll ds = true ∧ d.plain = true ∧ Q (.int ((ds.countP fun z => PyData.eqv z d : Nat) : Int)) H
theorem mt_countL {X : Cx} (hu : X.A.units + 65 < cLine) : MtR X "list.count" (rCountL X.K) := by
  intro pins s σ H x xs v us Q I rx rxs h; obtain ⟨a, ys, y, d, ds, rfl, rfl, hs, ha, hy, sl, sd, pl, pd, q⟩ := h
  cases rx
  cases rxs with
  | cons ry rt =>
    rename_i uy ut
    cases rt
    obtain ⟨bs, r1⟩ := Dp.reads I d y uy hy ry; have hroom : X.A.units + 1 + min (PyData.depthAll ds) d.depth < cLine := room_in_shaped sd hu
    obtain ⟨its, rv, p, hlen⟩ := I.list hs
    obtain ⟨as, h4⟩ := Dp.readsAll I ds _ its ha rv; exact SeqAt.count_list_data (vs := its.toArray) p.isList (by simpa using h4) r1 pl pd hroom ⟨.int _, H, I.tok _, ⟨_, rfl⟩, q⟩
theorem mt_countT {X : Cx} (hu : X.A.units + 65 < cLine) : MtR X "tuple.count" (rCountT X.K) := by
  intro pins s σ H x xs v us Q I rx rxs h; obtain ⟨a, ys, y, d, ds, rfl, rfl, hs, ha, hy, sl, sd, pl, pd, q⟩ := h
  cases rx
  cases rxs with
  | cons ry rt =>
    rename_i uy ut
    cases rt
    obtain ⟨bs, r1⟩ := Dp.reads I d y uy hy ry; have hroom : X.A.units + 1 + min (PyData.depthAll ds) d.depth < cLine := room_in_shaped sd hu
    obtain ⟨its, rv, p, hlen⟩ := I.tuple hs
    obtain ⟨as, h4⟩ := Dp.readsAll I ds _ its ha rv; exact SeqAt.count_tuple_data (vs := its.toArray) p (by simpa using h4) r1 pl pd hroom ⟨.int _, H, I.tok _, ⟨_, rfl⟩, q⟩
/-- a method of a locked tuple -/
def tBMZ (r : V → List V → Hp → VK → Prop) (to : TE) (t : TA) : TE := fun σ H Q => to σ H fun x H1 => (∃ p ws, x = V.ref p ∧ TupP H1 p ws) ∧ t σ H1 fun xs H2 => r x xs H2 Q
theorem pe_bmZ {X : Cx} {o e : Expr} {es : List Expr} {to : TE} {t : TA} {name : Str} {apos cpos : Pos} {id : String} {r : V → List V → Hp → VK → Prop} (slot : Slot "tuple" name id) (hty : typeOf (.builtin id) = pure (.type "method_descriptor")) (hm : MtR X id r) (ho : PE X o to) (ha : PA X (e :: es) t)
    (hbase : attributeBase o name X.env (eval o X.env) = eval o X.env := by rfl) (hfew : ((backTo cpos (starEach (e :: es) X.env)).all (fun x => !x.1) && (backToKw cpos (keywordEach [] X.env)).all (fun x => x.1.isSome) && decide ((e :: es).length + ([] : List Keyword).length + (if ([] : List Keyword).isEmpty then 0 else 1) < 30)) = true := by rfl)
    (hline : (apos.endLine == cpos.line) = true := by rfl) (hs : starEach (e :: es) X.env = (false, eval e X.env) :: starEach es X.env := by rfl) (hpl : (backTo cpos (starEach es X.env)).any (·.1) = false := by rfl) :
    PE X (.Call (.Attribute o name apos) (e :: es) [] cpos) (tBMZ r to t) := by
  refine ⟨fun pins s σ H Q I h => wpAny_Call_method_late hbase hfew hline rfl (thn (ho.run pins s σ H _ I h) fun v s1 ⟨x, H1, I1, r1, ⟨p, ws, ex, ob, d0, eH⟩, q1⟩ => ?_)⟩
  subst ex
  cases r1
  obtain ⟨g0, _, its, _, ⟨o2, g2, c2, _⟩⟩ := (show ObjOk X.prog X.w H1 s1.heap p (.frz ob (.tup ws)) from I1.hok p _ eH)
  have ti : s1.TypeIs (.ref p) "tuple" := ⟨o2, g2, c2⟩
  refine ⟨"tuple", id, PySem.F.plainAttrs_tuple, slot, hty, ti, fun a z => ⟨ob, by cases z; exact g0, d0⟩, ?_⟩
  have hA := ha.run cpos pins s1 σ H1 _ I1 q1; rw [hs] at hA ⊢
  exact Calls.callWith_builtin (by show (false || (backTo cpos (starEach es X.env)).any (·.1)) = false; rw [hpl]; rfl) (Calls.evalArgs_plain (thn hA fun us s2 ⟨vs, H2, I2, r2, q2⟩ => hm pins s2 σ H2 (.ref p) vs (.ref p) us Q I2 rfl r2 q2))
/-- an own class asked of an own class's instance -/
theorem kit_ref {K : PySem.W.Frag} {C : Addr} {cls : Value} {b : Bool} (i : PySem.W.isClsIn K C = true) (t : PySem.W.typeIn K (.ref C) = some (.type "type")) (h : PySem.W.subIn K cls (.ref C) = some b) (ne : b = false → (cls == Value.ref C) = false) : PySem.W.kitOne K cls (.ref C) = some b := by
  have i2 : (PySem.W.clsIn K C).isSome = true := i
  unfold PySem.W.kitOne
  by_cases q : (cls == Value.ref C) = true
  · rw [if_pos q]
    cases b with
    | true => rfl
    | false =>
      rw [ne rfl] at q
      cases q
  · rw [if_neg q]
    show PySem.W.kitCls K cls (.ref C) = some b
    unfold PySem.W.kitCls
    simp only [i2, t, h]
    rfl
/-- steps as data -/
def stpD : Stp → PyData
  | .turn => .tuple [.str "turn"]
  | .meet b n => .tuple [.str (roomS b), .int n]
theorem stpD_dp {K : PySem.W.Frag} {H : Hp} : ∀ {vs : List V} {ss : List Stp}, Steps H vs ss → DpAll K H vs (ss.map stpD)
  | _, _, .nil => .nil
  | _, s :: ss, .cons ⟨t, e, h⟩ r => by
    subst e
    refine .cons ?_ (stpD_dp r)
    cases s with
    | turn => exact .tup (SqT.of h) (.cons (.str _) .nil)
    | meet b n => exact .tup (SqT.of h) (.cons (.str _) (.cons (.int _) .nil))
theorem stpD_lay : ∀ ss : List Stp, PyData.canLayAll0 (ss.map stpD) = true ∧ PyData.depthAll (ss.map stpD) ≤ 1 ∧ PyData.plainAll (ss.map stpD) = true
  | [] => by simp [PyData.canLayAll0, PyData.depthAll, PyData.plainAll]
  | s :: ss => by
    obtain ⟨a, b, c⟩ := stpD_lay ss
    have h1 : ∀ bb, PyData.strOk (roomS bb) = true := fun bb => by cases bb <;> decide +kernel
    have h2 : PyData.strOk "turn" = true := by decide +kernel
    cases s with
    | turn =>
      refine ⟨by simp [PyData.canLayAll0, PyData.canLay0, stpD, a, h2], ?_, by simp [PyData.plainAll, PyData.plain, stpD, c]⟩
      simp [PyData.depthAll, PyData.depth, stpD]
      omega
    | meet bb n =>
      refine ⟨by simp [PyData.canLayAll0, PyData.canLay0, stpD, a, h1], ?_, by simp [PyData.plainAll, PyData.plain, stpD, c]⟩
      simp [PyData.depthAll, PyData.depth, stpD]
      omega
theorem stpD_shaped (ss : List Stp) : SeqAt.shaped (.list (ss.map stpD)) = true := by
  obtain ⟨a, b, _⟩ := stpD_lay ss
  have : PyData.depth (.list (ss.map stpD)) ≤ 2 := by
    simp [PyData.depth]
    omega
  simp [SeqAt.shaped, PyData.canLay0, a]
  omega
theorem count_turns : ∀ ss : List Stp, ((ss.map stpD).countP fun z => PyData.eqv z (.tuple [.str "turn"])) = turnsF ss
  | [] => rfl
  | s :: ss => by
    have ih := count_turns ss
    rw [List.map_cons, List.countP_cons, ih]
    cases s with
    | turn =>
      have e : PyData.eqv (stpD .turn) (.tuple [.str "turn"]) = true := eqv_turn
      rw [e]
      rfl
    | meet b n =>
      have e : PyData.eqv (stpD (.meet b n)) (.tuple [.str "turn"]) = false := eqv_meet b n
      rw [e]
      rfl
end Cc

/-! Own rule: a list from its end to its beginning, xs[::-1]. -/
namespace Cc
open PySem PySem.Spec PyProof.Rows L2
def tRev (K : PySem.W.Frag) (te : TE) : TE := fun σ H Q => te σ H fun x H1 => ∃ (a : Addr) (xs : List V), x = .ref a ∧ SqL K H1 a xs ∧ ∀ p, H1 p = none → Q (.ref p) (upd H1 p (.lst xs.reverse))
theorem pe_rev {X : Cx} {e : Expr} {te : TE} {pos p2 pc pu : Pos} (he : PE X e te) : PE X (.Subscript e (.Slice none none (some (.UnaryOp .USub (.Constant (.int 1) 0 pc) pu)) p2) pos) (tRev X.K te) := by
  refine ⟨fun pins s σ H Q I h => ?_⟩
  refine Subscript_ (thn (he.run pins s σ H _ I h) fun v s1 ⟨x, H1, I1, r1, a, xs, ex, hx, q1⟩ => ?_)
  subst ex
  have st : PO X (some (Expr.UnaryOp .USub (.Constant (.int 1) 0 pc) pu)) (tPart (tUn (rU fun i => .int (-i)) (tC (.int 1)))) := po_some (pe_un un_neg pe_int)
  refine wpAny_Slice (thn (po_none.run pins s1 σ H1 (fun l H2 => l = none ∧ H2 = H1) I1 ⟨rfl, rfl⟩) fun vl s2 ⟨l, H2, I2, pl, el, eH⟩ => ?_)
  subst el
  subst eH
  refine thn (po_none.run pins s2 σ H2 (fun l H3 => l = none ∧ H3 = H2) I2 ⟨rfl, rfl⟩) fun vu s3 ⟨u, H3, I3, pu', eu, eH⟩ => ?_
  subst eu
  subst eH
  refine thn (st.run pins s3 σ H3 (fun l H4 => l = some (-1) ∧ H4 = H3) I3 ⟨1, rfl, -1, rfl, rfl, rfl⟩) fun vk s4 ⟨k, H4, I4, pk, ek, eH⟩ => ?_
  subst ek
  subst eH
  have I5 : Inv X pins σ H4 { s4 with heap := s4.heap.push { cls := .type "slice", data := .fields #[vl, vu, vk] } } := I4.kept (t' := s4.toks) fun b ob q => Heap.get?_push_of_some _ q
  cases r1
  obtain ⟨its, r, ht, hz⟩ := I5.list hx; have hlen := r.length
  show wpAny (model X.prog X.w) X.A (subscriptTail e (.Slice none none (some (.UnaryOp .USub (.Constant (.int 1) 0 pc) pu)) p2) (.ref a) (.ref s4.heap.objs.size)) (EP X pins σ Q) X.xe { s4 with heap := s4.heap.push { cls := .type "slice", data := .fields #[vl, vu, vk] } }
  refine tail_any (ops := [.ref a, .ref s4.heap.objs.size]) ht.isList.typeIs slot_list_getitem.lookup ?_ (by with_unfolding_all rfl)
  refine wpAny_getItem_list_slice ht.isList (Heap.IsSliceOf.new ..) pl pu' pk (by simp) ?_ (by rw [List.size_toArray] <;> omega)
  rw [PySem.W.krv_pick]
  refine ⟨.ref _, _, I5.laid (t' := s4.toks) (o := .lst xs.reverse) (fun b ob q => Heap.get?_push_of_some _ q) (Nat.le_refl _) ?_, rfl, q1 _ (I5.hok.fresh (Nat.le_refl _))⟩
  refine ⟨by rw [List.length_reverse]; omega, its.toArray.toList.reverse, 0, by simpa using r.reverse, Heap.get?_push_size _ rfl⟩
/-- o.m() by a positional promise -/
theorem pe_methR0 {X : Cx} {CX : CXT} {k : Nat} {C f : Addr} {m : Str} {sp : Sp} {E : XK} {o : Expr} {ta : TE} {apos pos : Pos} {pl : Sem Bool} (he : PE X o ta) (c : Cls X.K C) (hm : Meth X.K C m f)
    (F : FnR X.prog X.w X.K X.mg X.base CX k f sp) (hr : Room k X.A) (hx : Passes CX X E) (ht : eval (.Call (.Attribute o m apos) [] [] pos) X.env = (do
      let ov ← eval o X.env
      standAt apos.atName
      let (f, first) ← holding [ov] (getMethod ov m pl); callWith pos f first (backTo pos (starEach [] X.env)) (backToKw pos (keywordEach [] X.env))) := by rfl) :
    PE X (.Call (.Attribute o m apos) [] [] pos) (tMethR C m sp E ta tNil) := by
  refine ⟨fun pins s σ H Q I h => PySem.W.methodCall_KW (pl := pl) (thn (he.run pins s σ H _ I h) fun u s1 ⟨x, H1, I1, rx, a, dx, fs, ex, ea, l, q⟩ => ?_) ht⟩
  subst ex
  obtain rfl : u = Value.ref a := rx
  exact getmeth_ok I1 ea c hm l (PySem.W.callWith_K0 (first := [.ref a]) I1.kIn hm.kp (wpAny_call (run_fnR (us := [.ref a]) (vs := [.ref a]) F hr hx I1 (.cons rfl .nil) q)))
end Cc

/-! Live houses: moments, the house, what it is told. -/
namespace Cc
open PySem PySem.Spec PyProof.Rows L2
theorem hp_putF_len (f : Str) (v : V) : ∀ fs : List (Str × V), (putF f v fs).length ≤ fs.length + 1
  | [] => Nat.le_refl 1
  | (g, x) :: r => by
    have ih := hp_putF_len f v r
    show (if g = f then (g, v) :: r else (g, x) :: putF f v r).length ≤ r.length + 1 + 1
    split
    · show r.length + 1 ≤ _
      omega
    · show (putF f v r).length + 1 ≤ _
      omega
theorem hp_putF_keep (f : Str) (v : V) : ∀ {fs : List (Str × V)} {u : V}, fs.lookup f = some u → (putF f v fs).length = fs.length
  | [], u, h => nomatch h
  | (g, x) :: r, u, h => by
    show (if g = f then (g, v) :: r else (g, x) :: putF f v r).length = r.length + 1
    by_cases e : g = f
    · rw [if_pos e]
      rfl
    · rw [if_neg e]
      have h' : r.lookup f = some u := by
        rw [List.lookup] at h
        have q : (f == g) = false := by simpa using fun z => e z.symm
        rw [q] at h
        exact h
      have ih := hp_putF_keep f v h'
      show (putF f v r).length + 1 = _
      rw [ih]
theorem putF_skip {f g : Str} {v x : V} {r : List (Str × V)} (h : ¬ g = f) : putF f v ((g, x) :: r) = (g, x) :: putF f v r := if_neg h
theorem putF_hit {f : Str} {v x : V} {r : List (Str × V)} : putF f v ((f, x) :: r) = (f, v) :: r := if_pos rfl
theorem putF_nil {f : Str} {v : V} : putF f v [] = [(f, v)] := rfl
theorem lkS {f g : Str} {x : V} {r : List (Str × V)} {u : Option V} (h : (f == g) = false) (k : r.lookup f = u) : ((g, x) :: r).lookup f = u := by
  rw [List.lookup, h]
  exact k
theorem lkZ {f : Str} {x : V} {r : List (Str × V)} : ((f, x) :: r).lookup f = some x := by
  rw [List.lookup, beq_self_eq_true f]
theorem lkN {f : Str} : ([] : List (Str × V)).lookup f = none := rfl
abbrev momL (op : V) (r m : Int) (t : Bool) (e : V) : List (Str × V) := [("operation", op), ("red_now", .int r), ("moved", .int m), ("turned", .bl t), ("earlier", e)]
abbrev houL (c : Int) (p rv : V) : List (Str × V) := [("all_chairs", .int c), ("present", p), ("reverted", rv)]
def MomAt (CM : Addr) (H : Hp) (a : Addr) (op : V) (r m : Int) (t : Bool) (e : V) : Prop := ∃ dx, H a = some (.ins CM dx (momL op r m t e))
structure MTxt (K : PySem.W.Frag) (CM : Addr) : Prop where
  cl : Cls K CM
  a1 : NoAttr K CM "operation"
  a2 : NoAttr K CM "red_now"
  a3 : NoAttr K CM "moved"
  a4 : NoAttr K CM "turned"
  a5 : NoAttr K CM "earlier"
structure HTxt (K : PySem.W.Frag) (CH : Addr) : Prop where
  cl : Cls K CH
  a1 : NoAttr K CH "all_chairs"
  a2 : NoAttr K CH "present"
  a3 : NoAttr K CH "reverted"
/-- the moments from one back to the first -/
def Chain (CM : Addr) (H : Hp) : V → List Addr → Prop
  | v, [] => v = .non
  | v, a :: r => ∃ op rd mv tu e, v = .ref a ∧ MomAt CM H a op rd mv tu e ∧ Chain CM H e r
theorem Chain.ins {CM : Addr} {H H1 : Hp} (k : ∀ a dx op rd mv tu e, H a = some (.ins CM dx (momL op rd mv tu e)) → H1 a = some (.ins CM dx (momL op rd mv tu e))) : ∀ {as : List Addr} {v : V}, Chain CM H v as → Chain CM H1 v as
  | [], _, h => h
  | _ :: _, _, ⟨op, rd, mv, tu, w, e, ⟨dx, a⟩, r⟩ => ⟨op, rd, mv, tu, w, e, ⟨dx, k _ _ _ _ _ _ _ a⟩, Chain.ins k r⟩
theorem Chain.same {CM : Addr} {H H1 : Hp} (s : Same H H1) {as : List Addr} {v : V} (h : Chain CM H v as) : Chain CM H1 v as := h.ins fun _ _ _ _ _ _ _ e => s _ _ e
theorem Chain.mem {CM : Addr} {H : Hp} : ∀ {as : List Addr} {v : V}, Chain CM H v as → ∀ a ∈ as, ∃ dx op rd mv tu e, H a = some (.ins CM dx (momL op rd mv tu e))
  | b :: _, _, ⟨op, rd, mv, tu, w, e, ⟨dx, h⟩, r⟩, a, ha => (List.mem_cons.mp ha).elim (fun z => by subst z; exact ⟨dx, op, rd, mv, tu, w, h⟩) fun z => Chain.mem r a z
theorem hs_cut1 (xs : List V) (n : Nat) (h : xs.length = n) (h0 : 0 < n) : (cutV xs (some 1) none).length = n - 1 := by
  have e1 : HT.sIx xs.length 0 (some 1) = 1 := by
    unfold HT.sIx
    first | rfl | (simp; omega)
  have e2 : HT.sIx xs.length xs.length none = xs.length := rfl
  unfold cutV
  rw [e1, e2, List.length_take, List.length_drop, h]
  omega
/-- a house that stands so -/
structure HouseIs (CH CM : Addr) (H : Hp) (x : Addr) (c : Int) (m : Addr) (op : V) (r mv : Int) (t : Bool) (e rv : V) : Prop where
  at_ : ∃ dx, H x = some (.ins CH dx (houL c (.ref m) rv))
  mo : MomAt CM H m op r mv t e
theorem ins_ne {H : Hp} {x y A B dx dy : Addr} {f g : List (Str × V)} (a : H x = some (.ins A dx f)) (b : H y = some (.ins B dy g)) (n : f.length ≠ g.length) : x ≠ y := fun z => by
  subst z
  rw [a] at b
  injection b with b
  injection b with _ _ b
  exact n (by rw [b])
theorem tupP_ne {H : Hp} {tp x A dx : Addr} {ws : List V} {f : List (Str × V)} (h : TupP H tp ws) (e : H x = some (.ins A dx f)) : tp ≠ x := let ⟨_, _, a⟩ := h; ne_of a e fun z => nomatch z
theorem HouseIs.same {CH CM : Addr} {H H1 : Hp} {x m : Addr} {c r mv : Int} {op e rv : V} {t : Bool} (h : HouseIs CH CM H x c m op r mv t e rv) (s : Same H H1) : HouseIs CH CM H1 x c m op r mv t e rv :=
  let ⟨⟨dx, a⟩, ⟨dm, b⟩⟩ := h
  ⟨⟨dx, s _ _ a⟩, ⟨dm, s _ _ b⟩⟩
/-- another house, when one is told something -/
theorem HouseIs.but {CH CM : Addr} {H H1 : Hp} {x y m : Addr} {c r mv : Int} {op e rv : V} {t : Bool} (h : HouseIs CH CM H x c m op r mv t e rv) (s : But y H H1) (n : x ≠ y) (hy : ∃ dx c p rv, H y = some (.ins CH dx (houL c p rv))) : HouseIs CH CM H1 x c m op r mv t e rv :=
  let ⟨⟨dx, a⟩, ⟨dm, b⟩⟩ := h
  let ⟨_, _, _, _, q⟩ := hy
  ⟨⟨dx, s _ _ n a⟩, ⟨dm, s _ _ (ins_ne b q (by simp)) b⟩⟩
theorem Chain.but {CH CM : Addr} {H H1 : Hp} {y : Addr} (s : But y H H1) (hy : ∃ dx c p rv, H y = some (.ins CH dx (houL c p rv))) {as : List Addr} {v : V} (h : Chain CM H v as) : Chain CM H1 v as :=
  let ⟨_, _, _, _, q⟩ := hy
  h.ins fun _ _ _ _ _ _ _ e => s _ _ (ins_ne e q (by simp)) e
def spMomInit (CM : Addr) : Sp := fun vs H Q _ => ∃ (x dx : Addr) (op e : V) (r m : Int) (t : Bool), vs = [.ref x, op, .int r, .int m, .bl t, e] ∧ H x = some (.ins CM dx []) ∧ ∀ H', But x H H' → H' x = some (.ins CM dx (momL op r m t e)) → Q .non H'
def spHouInit (CH CM : Addr) : Sp := fun vs H Q _ => ∃ (x dx : Addr) (c r : Int), vs = [.ref x, .int c, .int r] ∧ H x = some (.ins CH dx []) ∧ 0 ≤ c ∧ c ≤ 1000000000000000000 ∧ 0 ≤ r ∧ r ≤ c ∧
  ∀ m H', But x H H' → HouseIs CH CM H' x c m .non r 0 false .non .non → Q .non H'
def spRedP (CH CM : Addr) : Sp := fun vs H Q _ => ∃ (x m : Addr) (c r mv : Int) (t : Bool) (op e rv : V), vs = [.ref x] ∧ HouseIs CH CM H x c m op r mv t e rv ∧ Q (.int r) H
def spBlueP (CH CM : Addr) : Sp := fun vs H Q _ => ∃ (x m : Addr) (c r mv : Int) (t : Bool) (op e rv : V), vs = [.ref x] ∧ HouseIs CH CM H x c m op r mv t e rv ∧ Q (.int (c - r)) H
def spMovedP (CH CM : Addr) : Sp := fun vs H Q _ => ∃ (x m : Addr) (c r mv : Int) (t : Bool) (op e rv : V), vs = [.ref x] ∧ HouseIs CH CM H x c m op r mv t e rv ∧ Q (.int mv) H
def spTurnedP (CH CM : Addr) : Sp := fun vs H Q _ => ∃ (x m : Addr) (c r mv : Int) (t : Bool) (op e rv : V), vs = [.ref x] ∧ HouseIs CH CM H x c m op r mv t e rv ∧ Q (.bl t) H
def spTurning (C : Addr) : Sp := fun vs H Q _ => ∃ (p : Addr) (ss : List Stp), vs = [.ref p] ∧ PlanAt C H p ss ∧ ss.length ≤ 1000 ∧ Q (.bl (decide (turnsF ss % 2 = 1))) H
def spMoments (CH CM : Addr) : Sp := fun vs H Q _ => ∃ (x m : Addr) (c r mv : Int) (t : Bool) (op e rv : V) (as : List Addr), vs = [.ref x] ∧ HouseIs CH CM H x c m op r mv t e rv ∧ Chain CM H (.ref m) as ∧ as.length ≤ 900 ∧
  ∀ q H', Same H H' → H' q = some (.lst (as.reverse.map V.ref)) → Q (.ref q) H'
def spHistory (CH CM : Addr) : Sp := fun vs H Q _ => ∃ (x m : Addr) (c r mv : Int) (t : Bool) (op e rv : V) (as : List Addr), vs = [.ref x] ∧ HouseIs CH CM H x c m op r mv t e rv ∧ Chain CM H (.ref m) as ∧ as.length ≤ 900 ∧
  ∀ q ys H', Same H H' → H' q = some (.lst ys) → ys.length = as.length - 1 → Q (.ref q) H'
def spAccept (CH CM : Addr) : Sp := fun vs H Q _ => ∃ (x m : Addr) (c r mv : Int) (t : Bool) (op e rv : V) (op' : V) (r' k : Int) (t' : Bool), vs = [.ref x, op', .int r', .int k, .bl t'] ∧ HouseIs CH CM H x c m op r mv t e rv ∧
  ∀ m' H', But x H H' → HouseIs CH CM H' x c m' op' r' (mv + k) (t != t') (.ref m) .non → Q .non H'
def spRun (C CH CM : Addr) : Sp := fun vs H Q _ => ∃ (x m p : Addr) (c r mv n : Int) (t : Bool) (op e rv : V) (ss : List Stp), vs = [.ref x, .ref p, .int n] ∧ HouseIs CH CM H x c m op r mv t e rv ∧ PlanAt C H p ss ∧ ss.length ≤ 60 ∧ (∀ s ∈ ss, s.ok c) ∧ 0 ≤ c ∧ c ≤ 1000000000000000000 ∧ 0 ≤ r ∧ r ≤ c ∧ 0 ≤ n ∧ n ≤ 1000000000000000000 ∧
  ∀ m' tq tp ws H', But x H H' → H' tq = some (.tup [.str "run", .ref tp, .int n]) → TupP H' tp ws → Steps H' ws ss → HouseIs CH CM H' x c m' (.ref tq) (afterF c ss r n.toNat).1 (mv + (afterF c ss r n.toNat).2) (t != (decide (turnsF ss % 2 = 1) && decide (n % 2 = 1))) (.ref m) .non → Q (.int (afterF c ss r n.toNat).2) H'
section
variable {P : Program} {w : World} {K : PySem.W.Frag} {mg : Str → Option Value} {base : Heap} {C CH CM TU pS gS : Addr} {fdR fdT : FuncData} {mc : Value}
abbrev s_Plan_is_turning : Stmt := inClass (top 20) 5
abbrev n_Plan_is_turning : List Str := ["self"]
theorem sc_Plan_is_turning : FnScope n_Plan_is_turning ["self"] (defScope s_Plan_is_turning) := ⟨rfl, rfl, rfl, by decide +kernel, rfl, by decide +kernel, by decide +kernel⟩
theorem ok_Plan_is_turning {f : Addr} {fd : FuncData} (F : Fun K "is_turning" "Plan.is_turning" s_Plan_is_turning f fd) (T : Txt K mg C TU pS gS mc) : FnOk P w K mg base CX0 1 f fd ["self"] (spTurning C) := by
  refine F.ok sc_Plan_is_turning (fun vs H Q E h => ?_) (fun cdv A outer s H vs Q E hr h => ?_)
  · obtain ⟨p, ss, rfl, _⟩ := h
    rfl
  · obtain ⟨p, ss, rfl, ⟨dx, tp, ws, e1, e2, e3⟩, hl, k⟩ := h
    refine ⟨_, pss_one (ps_ret (pe_cmpR op_eq (pe_op op_mod (pe_bmZ PySem.F.slot_tuple_count PySem.F.type_tuple_count (mt_countT (room65 hr)) (pe_fld (pv 0) rfl) (pa_cons (pe_glob (v := .ref TU) rfl T.gT rfl) pa_nil)) pe_int) pe_int (nomark _))), ?_⟩
    refine ⟨_, rfl, p, C, dx, _, _, rfl, e1, T.cl, T.nS, lk_self, ⟨tp, ws, rfl, e2⟩, tp, ws, .ref TU, .tuple [.str "turn"], ss.map stpD, rfl, rfl, e2.sq, stpD_dp e3, .tup (T.tT _) (.cons (.str _) .nil), stpD_shaped ss, by decide +kernel, (stpD_lay ss).2.2, by decide +kernel, ?_⟩
    rw [count_turns]
    refine ⟨_, _, rfl, rfl, by show (0 : Int) < 2; decide, rfl, ?_⟩
    have e : decide (V.int (((turnsF ss : Nat) : Int) % 2) = V.int 1) = decide (turnsF ss % 2 = 1) := by
      by_cases h : turnsF ss % 2 = 1
      · rw [decide_eq_true h, decide_eq_true (by rw [show ((turnsF ss : Nat) : Int) % 2 = 1 by omega])]
      · rw [decide_eq_false h, decide_eq_false (fun z => h (by injection z; omega))]
    dsimp only at e ⊢
    rw [e]
    exact k
abbrev s_Moment___init__ : Stmt := inClass (top 30) 0
abbrev n_Moment___init__ : List Str := ["self", "operation", "red_now", "moved", "turned", "earlier"]
theorem sc_Moment___init__ : FnScope n_Moment___init__ ["self", "operation", "red_now", "moved", "turned", "earlier"] (defScope s_Moment___init__) := ⟨rfl, rfl, rfl, by decide +kernel, rfl, by decide +kernel, by decide +kernel⟩
theorem ok_Moment___init__ {f : Addr} {fd : FuncData} (F : Fun K "__init__" "Moment.__init__" s_Moment___init__ f fd) (O : MTxt K CM) : FnOk P w K mg base CX0 1 f fd ["self", "operation", "red_now", "moved", "turned", "earlier"] (spMomInit CM) := by
  refine F.ok sc_Moment___init__ (fun vs H Q E h => ?_) (fun cdv A outer s H vs Q E hr h => ?_)
  · obtain ⟨x, dx, op, e, r, m, t, rfl, _⟩ := h
    rfl
  · obtain ⟨x, dx, op, e, r, m, t, rfl, hx, k⟩ := h
    refine ⟨_, pss_cons (ps_fld (pv 0) (pv 1) rfl)
      (pss_cons (ps_fld (pv 0) (pv 2) rfl)
      (pss_cons (ps_fld (pv 0) (pv 3) rfl)
      (pss_cons (ps_fld (pv 0) (pv 4) rfl)
      (pss_one (ps_fld (pv 0) (pv 5) rfl))))), ?_⟩
    refine ⟨_, rfl, _, rfl, x, CM, dx, [], rfl, hx, O.cl, O.a1, by decide, ?_⟩
    rw [putF_nil]
    refine ⟨_, rfl, _, rfl, x, CM, dx, [("operation", op)], rfl, upd_same, O.cl, O.a2, by show 1 < 1000; decide, ?_⟩
    rw [putF_skip (by decide), putF_nil]
    refine ⟨_, rfl, _, rfl, x, CM, dx, _, rfl, upd_same, O.cl, O.a3, by show 2 < 1000; decide, ?_⟩
    rw [putF_skip (by decide), putF_skip (by decide), putF_nil]
    refine ⟨_, rfl, _, rfl, x, CM, dx, _, rfl, upd_same, O.cl, O.a4, by show 3 < 1000; decide, ?_⟩
    rw [putF_skip (by decide), putF_skip (by decide), putF_skip (by decide), putF_nil]
    refine ⟨_, rfl, _, rfl, x, CM, dx, _, rfl, upd_same, O.cl, O.a5, by show 4 < 1000; decide, ?_⟩
    rw [putF_skip (by decide), putF_skip (by decide), putF_skip (by decide), putF_skip (by decide), putF_nil]
    exact k _ (fun b o n z => by rw [upd_ne n, upd_ne n, upd_ne n, upd_ne n, upd_ne n]; exact z) upd_same
abbrev s_House___init__ : Stmt := inClass (top 31) 0
abbrev n_House___init__ : List Str := ["self", "chairs", "red"]
theorem sc_House___init__ : FnScope n_House___init__ ["self", "chairs", "red"] (defScope s_House___init__) := ⟨rfl, rfl, rfl, by decide +kernel, rfl, by decide +kernel, by decide +kernel⟩
theorem ok_House___init__ {f f_check_number fMI : Addr} {fd : FuncData} (F : Fun K "__init__" "House.__init__" s_House___init__ f fd) (T : Txt K mg C TU pS gS mc) (D_check_number : Dn P w K mg base 2 "check_number" f_check_number spChkNum) (O : HTxt K CH) (MM : Mk K CM fMI) (GMI : FnR P w K mg base CX0 1 fMI (spMomInit CM)) (gMM : mg "Moment" = some (.ref CM)) : FnOk P w K mg base CX0 3 f fd ["self", "chairs", "red"] (spHouInit CH CM) := by
  refine F.ok sc_House___init__ (fun vs H Q E h => ?_) (fun cdv A outer s H vs Q E hr h => ?_)
  · obtain ⟨x, dx, c, r, rfl, _⟩ := h
    rfl
  · obtain ⟨x, dx, c, r, rfl, hx, c0, c1, r0, r1, k⟩ := h
    obtain ⟨u, hu⟩ := T.cc
    refine ⟨_, pss_cons (ps_expr (pe_callR D_check_number.ok (hr.mono (by decide)) rfl D_check_number.at_ D_check_number.kp pass0 (pa_cons (pv 1) (pa_cons pe_int (pa_cons (ClX.pe_cval (pe_glob (v := .ref C) rfl T.gP rfl)) pa_nil)))))
      (pss_cons (ps_expr (pe_callR D_check_number.ok (hr.mono (by decide)) rfl D_check_number.at_ D_check_number.kp pass0 (pa_cons (pv 2) (pa_cons pe_int (pa_cons (pv 1) pa_nil)))))
      (pss_cons (ps_fld (pv 0) (pv 1) rfl)
      (pss_cons (ps_fld (pv 0) (StX.pe_makeR MM GMI (hr.mono (by decide)) rfl gMM pass0 (pa_cons pe_non (pa_cons (pv 2) (pa_cons pe_int (pa_cons pe_bl (pa_cons pe_non pa_nil)))))) rfl)
      (pss_one (ps_fld (pv 0) pe_non rfl))))), ?_⟩
    refine ⟨_, rfl, C, mc, _, u, rfl, T.rd, hu, c, 0, _, rfl, c0, c1, ?_⟩
    refine ⟨_, rfl, _, rfl, r, 0, c, rfl, r0, r1, ?_⟩
    refine ⟨_, rfl, _, rfl, x, CH, dx, [], rfl, hx, O.cl, O.a1, by decide, ?_⟩
    rw [putF_nil]
    have h1 : But x H (upd H x (.ins CH dx [("all_chairs", .int c)])) := fun b o n z => by rw [upd_ne n]; exact z
    have h2 := upd_same (H := H) (a := x) (o := .ins CH dx [("all_chairs", .int c)])
    generalize upd H x (.ins CH dx [("all_chairs", .int c)]) = H1 at *
    refine ⟨_, rfl, fun m dm hm hdm ne => ?_⟩
    refine ⟨m, dm, .non, .non, r, 0, false, rfl, upd_same, fun H2 b2 e2 => ⟨rfl, ?_⟩⟩
    have nx : x ≠ m := ne_of_none h2 hm
    have nd : ∀ b o, H1 b = some o → b ≠ m ∧ b ≠ dm := fun b o z => ⟨ne_of_none z hm, ne_of_none z hdm⟩
    have b12 : Same H1 H2 := fun b o z => b2 _ _ (nd _ _ z).1 (by rw [upd_ne (nd _ _ z).1, upd_ne (nd _ _ z).2]; exact z)
    refine ⟨_, rfl, x, CH, dx, _, rfl, b12 _ _ h2, O.cl, O.a2, by show 1 < 1000; decide, ?_⟩
    rw [putF_skip (by decide), putF_nil]
    refine ⟨_, rfl, x, CH, dx, _, rfl, upd_same, O.cl, O.a3, by show 2 < 1000; decide, ?_⟩
    rw [putF_skip (by decide), putF_skip (by decide), putF_nil]
    refine k m _ (fun b o n z => ?_) ⟨⟨dx, upd_same⟩, ⟨dm, ?_⟩⟩
    · rw [upd_ne n, upd_ne n]
      exact b12 _ _ (h1 _ _ n z)
    · rw [upd_ne nx.symm, upd_ne nx.symm]
      exact e2
abbrev s_House_red : Stmt := inClass (top 31) 1
abbrev n_House_red : List Str := ["self"]
theorem sc_House_red : FnScope n_House_red ["self"] (defScope s_House_red) := ⟨rfl, rfl, rfl, by decide +kernel, rfl, by decide +kernel, by decide +kernel⟩
theorem ok_House_red {f : Addr} {fd : FuncData} (F : Fun K "red" "House.red" s_House_red f fd) (OH : HTxt K CH) (OM : MTxt K CM) : FnOk P w K mg base CX0 1 f fd ["self"] (spRedP CH CM) := by
  refine F.ok sc_House_red (fun vs H Q E h => ?_) (fun cdv A outer s H vs Q E hr h => ?_)
  · obtain ⟨x, m, c, r, mv, t, op, e, rv, rfl, _⟩ := h
    rfl
  · obtain ⟨x, m, c, r, mv, t, op, e, rv, rfl, ⟨⟨dx, h1⟩, ⟨dm, h2⟩⟩, k⟩ := h
    refine ⟨_, pss_one (ps_ret (pe_fld (pe_fld (pv 0) rfl) rfl)), ?_⟩
    exact ⟨_, rfl, x, CH, dx, _, _, rfl, h1, OH.cl, OH.a2, lkS (by decide) lkZ, m, CM, dm, _, _, rfl, h2, OM.cl, OM.a2, lkS (by decide) lkZ, k⟩
abbrev s_House_blue : Stmt := inClass (top 31) 2
abbrev n_House_blue : List Str := ["self"]
theorem sc_House_blue : FnScope n_House_blue ["self"] (defScope s_House_blue) := ⟨rfl, rfl, rfl, by decide +kernel, rfl, by decide +kernel, by decide +kernel⟩
theorem ok_House_blue {f : Addr} {fd : FuncData} (F : Fun K "blue" "House.blue" s_House_blue f fd) (OH : HTxt K CH) (OM : MTxt K CM) : FnOk P w K mg base CX0 1 f fd ["self"] (spBlueP CH CM) := by
  refine F.ok sc_House_blue (fun vs H Q E h => ?_) (fun cdv A outer s H vs Q E hr h => ?_)
  · obtain ⟨x, m, c, r, mv, t, op, e, rv, rfl, _⟩ := h
    rfl
  · obtain ⟨x, m, c, r, mv, t, op, e, rv, rfl, ⟨⟨dx, h1⟩, ⟨dm, h2⟩⟩, k⟩ := h
    refine ⟨_, pss_one (ps_ret (pe_op op_sub (pe_fld (pv 0) rfl) (pe_fld (pe_fld (pv 0) rfl) rfl))), ?_⟩
    exact ⟨_, rfl, x, CH, dx, _, _, rfl, h1, OH.cl, OH.a1, lkZ, _, rfl, x, CH, dx, _, _, rfl, h1, OH.cl, OH.a2, lkS (by decide) lkZ, m, CM, dm, _, _, rfl, h2, OM.cl, OM.a2, lkS (by decide) lkZ, _, _, rfl, rfl, k⟩
abbrev s_House_total_moved : Stmt := inClass (top 31) 3
abbrev n_House_total_moved : List Str := ["self"]
theorem sc_House_total_moved : FnScope n_House_total_moved ["self"] (defScope s_House_total_moved) := ⟨rfl, rfl, rfl, by decide +kernel, rfl, by decide +kernel, by decide +kernel⟩
theorem ok_House_total_moved {f : Addr} {fd : FuncData} (F : Fun K "total_moved" "House.total_moved" s_House_total_moved f fd) (OH : HTxt K CH) (OM : MTxt K CM) : FnOk P w K mg base CX0 1 f fd ["self"] (spMovedP CH CM) := by
  refine F.ok sc_House_total_moved (fun vs H Q E h => ?_) (fun cdv A outer s H vs Q E hr h => ?_)
  · obtain ⟨x, m, c, r, mv, t, op, e, rv, rfl, _⟩ := h
    rfl
  · obtain ⟨x, m, c, r, mv, t, op, e, rv, rfl, ⟨⟨dx, h1⟩, ⟨dm, h2⟩⟩, k⟩ := h
    refine ⟨_, pss_one (ps_ret (pe_fld (pe_fld (pv 0) rfl) rfl)), ?_⟩
    exact ⟨_, rfl, x, CH, dx, _, _, rfl, h1, OH.cl, OH.a2, lkS (by decide) lkZ, m, CM, dm, _, _, rfl, h2, OM.cl, OM.a3, lkS (by decide) (lkS (by decide) lkZ), k⟩
abbrev s_House_is_turned : Stmt := inClass (top 31) 4
abbrev n_House_is_turned : List Str := ["self"]
theorem sc_House_is_turned : FnScope n_House_is_turned ["self"] (defScope s_House_is_turned) := ⟨rfl, rfl, rfl, by decide +kernel, rfl, by decide +kernel, by decide +kernel⟩
theorem ok_House_is_turned {f : Addr} {fd : FuncData} (F : Fun K "is_turned" "House.is_turned" s_House_is_turned f fd) (OH : HTxt K CH) (OM : MTxt K CM) : FnOk P w K mg base CX0 1 f fd ["self"] (spTurnedP CH CM) := by
  refine F.ok sc_House_is_turned (fun vs H Q E h => ?_) (fun cdv A outer s H vs Q E hr h => ?_)
  · obtain ⟨x, m, c, r, mv, t, op, e, rv, rfl, _⟩ := h
    rfl
  · obtain ⟨x, m, c, r, mv, t, op, e, rv, rfl, ⟨⟨dx, h1⟩, ⟨dm, h2⟩⟩, k⟩ := h
    refine ⟨_, pss_one (ps_ret (pe_fld (pe_fld (pv 0) rfl) rfl)), ?_⟩
    exact ⟨_, rfl, x, CH, dx, _, _, rfl, h1, OH.cl, OH.a2, lkS (by decide) lkZ, m, CM, dm, _, _, rfl, h2, OM.cl, OM.a4, lkS (by decide) (lkS (by decide) (lkS (by decide) lkZ)), k⟩
abbrev s_House_moments : Stmt := inClass (top 31) 7
abbrev n_House_moments : List Str := ["self", "found", "moment"]
theorem sc_House_moments : FnScope n_House_moments ["self"] (defScope s_House_moments) := ⟨rfl, rfl, rfl, by decide +kernel, rfl, by decide +kernel, by decide +kernel⟩
theorem ok_House_moments {f : Addr} {fd : FuncData} (F : Fun K "moments" "House.moments" s_House_moments f fd) (OH : HTxt K CH) (OM : MTxt K CM) : FnOk P w K mg base CX0 1 f fd ["self"] (spMoments CH CM) := by
  refine F.ok sc_House_moments (fun vs H Q E h => ?_) (fun cdv A outer s H vs Q E hr h => ?_)
  · obtain ⟨x, m, c, r, mv, t, op, e, rv, as, rfl, _⟩ := h
    rfl
  · obtain ⟨x, m, c, r, mv, t, op, e, rv, as, rfl, ⟨⟨dx, h1⟩, ⟨dm, h2⟩⟩, hc, hl, k⟩ := h
    refine ⟨_, pss_cons (ps_set (i := 1) sc_House_moments.nd rfl (.inl rfl) (pe_lst pa_nil))
      (pss_cons (ps_set (i := 2) sc_House_moments.nd rfl (.inl rfl) (pe_fld (pv 0) rfl))
      (pss_cons (ps_while PassesOwn.never (pt_cmpR op_notN (pv 2) pe_non (nomark _))
        (pss_cons (ps_expr (pe_bm PySem.F.plainAttrs_list PySem.F.slot_list_append PySem.F.type_list_append mt_append (pv 1) (pa_cons (pv 2) pa_nil)))
        (pss_one (ps_set (i := 2) sc_House_moments.nd rfl (.inl rfl) (pe_fld (pv 2) rfl)))))
      (pss_one (ps_ret (pe_rev (pv 1)))))), ?_⟩
    refine ⟨by show 0 ≤ sizeLine; decide, fun q hq => ?_⟩
    have s0 := same_upd (o := .lst []) hq
    refine ⟨_, rfl, x, CH, dx, _, _, rfl, s0 _ _ h1, OH.cl, OH.a2, lkS (by decide) lkZ, ?_⟩
    refine while_by (fun σ H' => ∃ (done todo : List Addr) (v : V), σ = [some (.ref x), some (.ref q), some v] ∧ as = done ++ todo ∧ Same H H' ∧ H' q = some (.lst (done.map V.ref)) ∧ Chain CM H' v todo)
      (fun _ H' => as.length - (match H' q with | some (.lst ys) => ys.length | _ => 0)) ⟨[], as, _, rfl, rfl, s0, upd_same, hc.same s0⟩ ?_ ?_
    · rintro σ H1 ⟨done, todo, v, rfl, ea, s1, e1, ch⟩
      refine ⟨_, rfl, rfl, _, rfl, ?_⟩
      cases todo with
      | nil =>
        cases (show v = .non from ch)
        refine iteF ?_
        refine ⟨_, rfl, q, _, rfl, .of e1, fun p hp => k p _ (s1.trans (same_upd hp)) ?_⟩
        rw [upd_same, ea, List.append_nil, List.map_reverse]
      | cons a todo =>
        obtain ⟨op1, rd1, mv1, tu1, w1, rfl, ⟨da, ha⟩, ch2⟩ := ch
        refine iteT ?_
        have ld : done.length < 900 := by rw [ea, List.length_append] at hl; simp at hl; omega
        refine ⟨_, rfl, .inl ⟨rfl, _, SqL.of e1⟩, _, rfl, q, done.map V.ref, _, rfl, rfl, e1, small1000 (by rw [List.length_map]; omega), ?_⟩
        have na : a ≠ q := ne_of ha e1 fun z => nomatch z
        have nq : ∀ b o, H b = some o → b ≠ q := fun b o z => ne_of_none z hq
        refine ⟨_, rfl, a, CM, da, _, _, rfl, by rw [upd_ne na]; exact ha, OM.cl, OM.a5, lkS (by decide) (lkS (by decide) (lkS (by decide) (lkS (by decide) lkZ))), ?_⟩
        refine ⟨⟨done ++ [a], todo, w1, rfl, by rw [ea, List.append_assoc]; rfl, fun b o z => by rw [upd_ne (nq _ _ z)]; exact s1 _ _ z, by rw [upd_same, List.map_append]; rfl, ch2.ins fun b d1 o1 o2 o3 o4 o5 z => ?_⟩, ?_⟩
        · rw [upd_ne (ne_of z e1 fun z => nomatch z)]
          exact z
        · have la : as.length = done.length + (todo.length + 1) := by rw [ea, List.length_append]; rfl
          rw [upd_same, e1]
          show as.length - (done.map V.ref ++ [V.ref a]).length < as.length - (done.map V.ref).length
          rw [List.length_append, List.length_map, la]
          simp
          omega
    · exact fun σ H Q Q' h ⟨v, e, y, a, b, c⟩ => ⟨v, e, y, a, b, h _ _ c⟩
abbrev s_House_history : Stmt := inClass (top 31) 5
abbrev n_House_history : List Str := ["self", "moment"]
theorem sc_House_history : FnScope n_House_history ["self"] (defScope s_House_history) := ⟨rfl, rfl, rfl, by decide +kernel, rfl, by decide +kernel, by decide +kernel⟩
theorem ok_House_history {f fMo : Addr} {fd : FuncData} (F : Fun K "history" "House.history" s_House_history f fd) (OH : HTxt K CH) (OM : MTxt K CM) (MMo : Meth K CH "moments" fMo) (GMo : FnR P w K mg base CX0 1 fMo (spMoments CH CM)) : FnOk P w K mg base CX0 2 f fd ["self"] (spHistory CH CM) := by
  refine F.ok sc_House_history (fun vs H Q E h => ?_) (fun cdv A outer s H vs Q E hr h => ?_)
  · obtain ⟨x, m, c, r, mv, t, op, e, rv, as, rfl, _⟩ := h
    rfl
  · obtain ⟨x, m, c, r, mv, t, op, e, rv, as, rfl, hh, hc, hl, k⟩ := h
    refine ⟨_, pss_one (ps_ret (pe_lc (own := [("moment", 1)]) (g := gName 1) (tt := tYes) (te := (tFld K (tVar 1) "operation")) rfl sc_House_history.nd (pi_list (pe_slice sl_list (pe_methR0 (pv 0) OH.cl MMo GMo (hr.mono (by decide)) pass0) (po_some pe_int) po_none)) (blkOk_by (N := n_House_history) (sc := defScope s_House_history) (by decide +kernel)) (fun _ _ _ _ _ => pg_name (i := 1) sc_House_history.nd rfl (.inl rfl)) (fun _ _ _ _ _ => by exact pts_nil) (fun _ _ _ _ _ => by exact (pe_fld (pv 1) rfl)))), ?_⟩
    obtain ⟨dx, h1⟩ := hh.at_
    refine ⟨_, rfl, x, dx, _, rfl, h1, lkS (by decide) (lkS (by decide) (lkS (by decide) lkN)), x, m, c, r, mv, t, op, e, rv, as, rfl, hh, hc, hl, fun q H1 s1 e1 => ?_⟩
    refine ⟨1, rfl, q, _, rfl, .of e1, fun p hp => ?_⟩
    have s2 := s1.trans (same_upd (o := .lst (cutV (as.reverse.map V.ref) (some 1) none)) hp)
    have e2 := upd_same (H := H1) (a := p) (o := .lst (cutV (as.reverse.map V.ref) (some 1) none))
    have lc : (cutV (as.reverse.map V.ref) (some 1) none).length = as.length - 1 := hs_cut1 _ _ (by rw [List.length_map, List.length_reverse]) (by cases as with
      | nil => exact absurd hc (by intro z; cases z)
      | cons a r => exact Nat.succ_pos _)
    have mem : ∀ v ∈ cutV (as.reverse.map V.ref) (some 1) none, ∃ a ∈ as, v = .ref a := fun v hv => by
      have h3 := List.mem_of_mem_drop (List.mem_of_mem_take hv)
      obtain ⟨a, ha, rfl⟩ := List.mem_map.mp h3
      exact ⟨a, List.mem_reverse.mp ha, rfl⟩
    generalize cutV (as.reverse.map V.ref) (some 1) none = zs at *
    generalize upd H1 p (.lst zs) = H2 at *
    refine ⟨p, rfl, ⟨_, .of e2⟩, fun D hD => ?_⟩
    refine lc_list (K := K) (a := p) (xs := zs) (fun i H' => Same H2 H' ∧ ∃ ys, H' D = some (.lst ys) ∧ ys.length = i) ⟨same_upd hD, [], upd_same, rfl⟩ (fun i H' _ ⟨s3, _⟩ => SqL.of (s3 _ _ e2)) ?_ ?_
    · rintro i v H' hv ⟨s3, ys, e3, l3⟩
      obtain ⟨a, ha, rfl⟩ := mem v (List.mem_of_getElem? hv)
      obtain ⟨da, o1, o2, o3, o4, o5, h5⟩ := hc.mem a ha
      have li : i < zs.length := (List.getElem?_eq_some_iff.mp hv).1
      refine ⟨rfl, _, rfl, a, CM, da, _, _, rfl, s3 _ _ (s2 _ _ h5), OM.cl, OM.a1, lkZ, ys, e3, small1000 (by omega), (same_new hD s3), _, upd_same, by rw [List.length_append, l3]; rfl⟩
    · rintro H' ⟨s3, ys, e3, l3⟩
      exact k D ys H' (s2.trans s3) e3 (by rw [l3, lc])
abbrev s_House_accept : Stmt := inClass (top 31) 11
abbrev n_House_accept : List Str := ["self", "operation", "red", "carried", "turns", "before"]
theorem sc_House_accept : FnScope n_House_accept ["self", "operation", "red", "carried", "turns"] (defScope s_House_accept) := ⟨rfl, rfl, rfl, by decide +kernel, rfl, by decide +kernel, by decide +kernel⟩
theorem ok_House_accept {f fMI : Addr} {fd : FuncData} (F : Fun K "accept" "House.accept" s_House_accept f fd) (OH : HTxt K CH) (OM : MTxt K CM) (MM : Mk K CM fMI) (GMI : FnR P w K mg base CX0 1 fMI (spMomInit CM)) (gMM : mg "Moment" = some (.ref CM)) : FnOk P w K mg base CX0 3 f fd ["self", "operation", "red", "carried", "turns"] (spAccept CH CM) := by
  refine F.ok sc_House_accept (fun vs H Q E h => ?_) (fun cdv A outer s H vs Q E hr h => ?_)
  · obtain ⟨x, m, c, r, mv, t, op, e, rv, op', r', k', t', rfl, _⟩ := h
    rfl
  · obtain ⟨x, m, c, r, mv, t, op, e, rv, op', r', k', t', rfl, ⟨⟨dx, h1⟩, ⟨dm, h2⟩⟩, k⟩ := h
    refine ⟨_, pss_cons (ps_set (i := 5) sc_House_accept.nd rfl (.inl rfl) (pe_fld (pv 0) rfl))
      (pss_cons (ps_fld (pv 0) (StX.pe_makeR MM GMI (hr.mono (by decide)) rfl gMM pass0 (pa_cons (pv 1) (pa_cons (pv 2) (pa_cons (pe_op op_add (pe_fld (pv 5) rfl) (pv 3)) (pa_cons (pe_cmpR op_ne (pe_fld (pv 5) rfl) (pv 4) (nomark _)) (pa_cons (pv 5) pa_nil)))))) rfl)
      (pss_one (ps_fld (pv 0) pe_non rfl))), ?_⟩
    refine ⟨_, rfl, x, CH, dx, _, _, rfl, h1, OH.cl, OH.a2, lkS (by decide) lkZ, ?_⟩
    refine ⟨_, rfl, _, rfl, _, rfl, m, CM, dm, _, _, rfl, h2, OM.cl, OM.a3, lkS (by decide) (lkS (by decide) lkZ), _, rfl, _, _, rfl, rfl, ?_⟩
    refine ⟨_, rfl, m, CM, dm, _, _, rfl, h2, OM.cl, OM.a4, lkS (by decide) (lkS (by decide) (lkS (by decide) lkZ)), _, rfl, ?_⟩
    refine ⟨rfl, _, rfl, fun n dn hn hdn nn => ?_⟩
    have e0 : (!decide (V.bl t = V.bl t')) = (t != t') := by cases t <;> cases t' <;> rfl
    rw [e0]
    refine ⟨n, dn, op', .ref m, r', mv + k', t != t', rfl, upd_same, fun H2 b2 e2 => ⟨rfl, ?_⟩⟩
    have nd : ∀ b o, H b = some o → b ≠ n ∧ b ≠ dn := fun b o z => ⟨ne_of_none z hn, ne_of_none z hdn⟩
    have b12 : Same H H2 := fun b o z => b2 _ _ (nd _ _ z).1 (by rw [upd_ne (nd _ _ z).1, upd_ne (nd _ _ z).2]; exact z)
    have nx : x ≠ n := (nd _ _ h1).1
    refine ⟨_, rfl, x, CH, dx, _, rfl, b12 _ _ h1, OH.cl, OH.a2, by show 3 < 1000; decide, ?_⟩
    rw [putF_skip (by decide), putF_hit]
    refine ⟨_, rfl, x, CH, dx, _, rfl, upd_same, OH.cl, OH.a3, by show 3 < 1000; decide, ?_⟩
    rw [putF_skip (by decide), putF_skip (by decide), putF_hit]
    refine k n _ (fun b o z q => ?_) ⟨⟨dx, upd_same⟩, ⟨dn, ?_⟩⟩
    · rw [upd_ne z, upd_ne z]
      exact b12 _ _ q
    · rw [upd_ne nx.symm, upd_ne nx.symm]
      exact e2
abbrev s_House_run : Stmt := inClass (top 31) 10
abbrev n_House_run : List Str := ["self", "plan", "rounds", "red", "carried"]
theorem sc_House_run : FnScope n_House_run ["self", "plan", "rounds"] (defScope s_House_run) := ⟨rfl, rfl, rfl, by decide +kernel, rfl, by decide +kernel, by decide +kernel⟩
theorem ok_House_run {f f_check_house f_check_number f_after_rounds fAc pR gR pT gT : Addr} {fd fdS : FuncData} (F : Fun K "run" "House.run" s_House_run f fd) (T : Txt K mg C TU pS gS mc) (G : Gs P w K mg base C gS fdS) (g_MAX_ROUNDS : ∃ u, mg "MAX_ROUNDS" = some u ∧ RelV (.int 1000000000000000000) u) (D_check_house : Dn P w K mg base 3 "check_house" f_check_house (spChkHouse C)) (D_check_number : Dn P w K mg base 2 "check_number" f_check_number spChkNum) (D_after_rounds : Dn P w K mg base 3 "after_rounds" f_after_rounds (spARounds C)) (OH : HTxt K CH) (MAc : Meth K CH "accept" fAc) (GAc : FnR P w K mg base CX0 3 fAc (spAccept CH CM)) (PR : PropOf K CH "red" pR gR) (ORd : FnOk P w K mg base CX0 1 gR fdR ["self"] (spRedP CH CM)) (bR : Binds K fdR ["self"] []) (PT : PropOf K C "is_turning" pT gT) (OTu : FnOk P w K mg base CX0 1 gT fdT ["self"] (spTurning C)) (bT : Binds K fdT ["self"] []) : FnOk P w K mg base CX0 4 f fd ["self", "plan", "rounds"] (spRun C CH CM) := by
  refine F.ok sc_House_run (fun vs H Q E h => ?_) (fun cdv A outer s H vs Q E hr h => ?_)
  · obtain ⟨x, m, p, c, r, mv, n, t, op, e, rv, ss, rfl, _⟩ := h
    rfl
  · obtain ⟨x, m, p, c, r, mv, n, t, op, e, rv, ss, rfl, hh, hp, hl, hs, c0, c1, r0, r1, n0, n1, k⟩ := h
    obtain ⟨u_MAX_ROUNDS, m_MAX_ROUNDS, r_MAX_ROUNDS⟩ := g_MAX_ROUNDS
    refine ⟨_, pss_cons (ps_expr (pe_callR D_check_house.ok (hr.mono (by decide)) rfl D_check_house.at_ D_check_house.kp pass0 (pa_cons (pv 1) (pa_cons (pe_fld (pv 0) rfl) pa_nil))))
      (pss_cons (ps_expr (pe_callR D_check_number.ok (hr.mono (by decide)) rfl D_check_number.at_ D_check_number.kp pass0 (pa_cons (pv 2) (pa_cons pe_int (pa_cons (pe_glob rfl m_MAX_ROUNDS r_MAX_ROUNDS) pa_nil)))))
      (pss_cons (ps_asg (pe_callR D_after_rounds.ok (hr.mono (by decide)) rfl D_after_rounds.at_ D_after_rounds.kp pass0 (pa_cons (pv 1) (pa_cons (pe_fld (pv 0) rfl) (pa_cons (pe_prop (pv 0) OH.cl PR ORd (hr.mono (by decide)) bR .nil pass0 rfl) (pa_cons (pv 2) pa_nil))))) (pg_tup rfl (pgs_cons (pg_name (i := 3) sc_House_run.nd rfl (.inl rfl)) (pgs_cons (pg_name (i := 4) sc_House_run.nd rfl (.inl rfl)) pgs_nil))))
      (pss_cons (ps_expr (pe_methR (pv 0) OH.cl MAc GAc (hr.mono (by decide)) pass0 (pa_cons (pe_tup (pa_cons pe_str (pa_cons (pe_prop (pv 1) T.cl T.pr G.ok (hr.mono (by decide)) G.b .nil pass0 rfl) (pa_cons (pv 2) pa_nil)))) (pa_cons (pv 3) (pa_cons (pv 4) (pa_cons (pe_and (pe_prop (pv 1) T.cl PT OTu (hr.mono (by decide)) bT .nil pass0 rfl) (pe_one (pe_cmpR op_eq (pe_op op_mod (pv 2) pe_int) pe_int (nomark _)))) pa_nil))))))
      (pss_one (ps_ret (pv 4)))))), ?_⟩
    obtain ⟨dx, h1⟩ := hh.at_
    refine ⟨_, rfl, _, rfl, x, CH, dx, _, _, rfl, h1, OH.cl, OH.a1, lkZ, p, c, ss, rfl, hp, c0, c1, hs, hl, fun H1 s1 => ?_⟩
    refine ⟨_, rfl, n, 0, _, rfl, n0, n1, ?_⟩
    refine ⟨_, rfl, _, rfl, x, CH, dx, _, _, rfl, s1 _ _ h1, OH.cl, OH.a1, lkZ, _, rfl, x, dx, _, rfl, s1 _ _ h1, x, m, c, r, mv, t, op, e, rv, rfl, hh.same s1, ?_⟩
    refine ⟨_, rfl, p, ss, c, r, n, rfl, hp.same s1, hl, hs, r0, r1, n0, n1, fun q H2 s2 e2 => ?_⟩
    have s02 := s1.trans s2
    have hq2 := hp.same s02
    obtain ⟨dp, tp, ws, e1, e3, e4⟩ := id hp
    refine ⟨q, _, rfl, SqT.of e2, rfl, _, _, rfl, _, _, rfl, rfl, ?_⟩
    refine ⟨_, rfl, x, dx, _, rfl, s02 _ _ h1, lkS (by decide) (lkS (by decide) (lkS (by decide) lkN)), _, rfl, p, dp, _, rfl, s02 _ _ e1, p, dp, _, _, rfl, s02 _ _ e1, lk_self, _, rfl, by show 3 ≤ sizeLine; decide, fun tq htq => ?_⟩
    have s03 := s02.trans (same_upd (o := .tup [.str "run", .ref tp, .int n]) htq)
    have gq := upd_same (H := H2) (a := tq) (o := .tup [.str "run", .ref tp, .int n])
    generalize upd H2 tq (.tup [.str "run", .ref tp, .int n]) = H3 at *
    refine ⟨_, rfl, _, rfl, _, rfl, p, dp, _, rfl, s03 _ _ e1, p, ss, rfl, hp.same s03, by omega, _, rfl, ?_⟩
    have fin : ∀ (b : Bool) (Q' : VK) (E' : XK), b = (decide (turnsF ss % 2 = 1) && decide (n % 2 = 1)) → (∀ H', Q (.int (afterF c ss r n.toNat).2) H' → Q' .non H') → spAccept CH CM [.ref x, .ref tq, .int (afterF c ss r n.toNat).1, .int (afterF c ss r n.toNat).2, .bl b] H3 Q' E' := by
      rintro b Q' E' rfl hQ
      exact ⟨x, m, c, r, mv, t, op, e, rv, _, _, _, _, rfl, hh.same s03, fun m' H4 b4 h4 => hQ H4 (k m' tq tp ws H4 ((But.of s03).trans b4) (b4 _ _ (ne_of gq (s03 _ _ h1) fun z => nomatch z) gq) ((e3.same s03).but b4 (tupP_ne (e3.same s03) (s03 _ _ h1))) (e4.mono fun t us z => b4 _ _ (ne_of (s03 _ _ z) (s03 _ _ h1) fun z => nomatch z) (s03 _ _ z)) h4)⟩
    by_cases ht : turnsF ss % 2 = 1
    · refine ifT (decide_eq_true ht) ⟨_, rfl, _, _, rfl, rfl, by show (0 : Int) < 2; decide, rfl, ?_⟩
      dsimp only [tNil]
      refine fin _ _ _ ?_ fun H' q => ⟨_, rfl, q⟩
      rw [decide_eq_true ht, Bool.true_and, dec_int]
      exact (Bool.eq_iff_iff.mpr (by simp))
    · refine ifF (decide_eq_false ht) ?_
      dsimp only [tNil]
      refine fin _ _ _ ?_ fun H' q => ⟨_, rfl, q⟩
      rw [decide_eq_false ht, Bool.false_and]
end
end Cc

/-! An own error class called with a text that is made on the way. -/
namespace Cc
open PySem PySem.Spec PyProof.Rows L2
section
variable {X : Cx} {C : Addr} {bmB : List Value} {B newId initId : String} {x : Str} {e : Expr} {ta : TA} {p pos : Pos}
theorem pmk_any (F : ExcBaseFacts B newId initId bmB) (q : PySem.W.excIn X.K C bmB newId = true) (gC : X.mg x = some (.ref C)) (kC : PySem.W.keepIn X.K (.ref C) = true) (r : Raises X (.ref C)) (hg : Gl X x) (ha : PA X [e] ta)
    (hs : starEach [e] X.env = (false, eval e X.env) :: starEach [] X.env := by rfl) (hp : (backTo pos (starEach [] X.env)).any (·.1) = false := by rfl) (hdb : (x == ("__debug__" : Str)) = false := by decide) :
    PMk X (.Call (.Name x p) [e] [] pos) (fun σ H Q => ta σ H fun vs H1 => (∃ v, vs = [v]) ∧ Q (.ref C) none H1) := by
  intro pins s σ H Q I h
  refine wpAny_Call_Name_kw (ld_glob I hg gC ?_ hdb); refine PySem.W.callWith_K (h₀ := X.base) I.ok.mod.kin kC (thn (ha.run pos pins s σ H _ I h) fun us z1 ⟨vs, H1, I1, r1, ⟨v, ev⟩, q1⟩ => ⟨I1.kIn, ?_⟩) hs hp
  subst ev
  obtain ⟨u, rfl, ru⟩ := r1.one
  show wpAny _ _ (call (.ref C) [u]) _ _ _; obtain ⟨bm, N, nm, qn, bs, hd, sn, sub, ab, col, dd, k0, k1, k2, k3, k5, mN, hC, hN, hni, T⟩ := exc_obj I1.kIn q
  exact wpAny_call_exc_subT F T hC hN hni (fun h' a hm => mk_of I1 hm r q1 (I1.hok.gone hm.new)) (by show 1 ≤ sizeLine; decide)
end
/-- what is asked of an own error class that the program raises -/
structure Err (K : PySem.W.Frag) (mg : Str → Option Value) (x : Str) (C : Addr) : Prop where
  at_ : mg x = some (.ref C)
  (kp : PySem.W.keepIn K (.ref C) = true)
  ex : ∃ bmB B newId initId, ExcBaseFacts B newId initId bmB ∧ PySem.W.excIn K C bmB newId = true
  sub : PySem.W.subIn K (.ref C) (.type "BaseException") = some true
  ty : PySem.W.typeIn K (.ref C) = some (.type "type")
theorem log_small {i : Int} (h0 : -(2 ^ 64) < i) (h1 : i < 2 ^ 64) : i.natAbs.log2 < 1920 := by
  by_cases q : i.natAbs = 0
  · rw [q]
    decide
  · have h : i.natAbs < 2 ^ 64 := by omega
    exact Nat.lt_trans ((Nat.log2_lt q).mpr h) (by decide)
/-- a def of the module that may raise -/
structure DnX (P : Program) (w : World) (K : PySem.W.Frag) (mg : Str → Option Value) (base : Heap) (k : Nat) (x : Str) (f : Addr) (sp : Sp) : Prop where
  at_ : mg x = some (.ref f)
  kp : PySem.W.keepIn K (Value.ref f) = true
  ok : FnR P w K mg base (L2.CX P w) k f sp
/-- a block that is not reached -/
theorem pss_never {X : Cx} {rest : List Stmt} : PSs X rest (fun _ _ _ => False) := ⟨fun _ _ _ _ _ _ h => h.elim⟩
end Cc

namespace Cc
open PySem PySem.Spec PyProof.Rows L2
/-- check_number, that may raise -/
def spNumX (CN : Addr) : Sp := fun vs H Q E => ∃ (v a b : Int), vs = [.int v, .int a, .int b] ∧ (-(2 ^ 64) < a ∧ a < 2 ^ 64) ∧ (-(2 ^ 64) < b ∧ b < 2 ^ 64) ∧ (a ≤ v ∧ v ≤ b → Q .non H) ∧ (¬ (a ≤ v ∧ v ≤ b) → E (.ref CN) none H)
theorem text_len {i : Int} (h0 : -(2 ^ 64) < i) (h1 : i < 2 ^ 64) : (Str.ofString (toString i)).length ≤ 2000 := by
  have e := int_text_length_le (k := 1920) (by decide) (log_small h0 h1)
  rw [PySem.ofString_length]
  omega
section
variable {P : Program} {w : World} {K : PySem.W.Frag} {mg : Str → Option Value} {base : Heap} {C TU pS gS : Addr} {mc : Value}
theorem ok_numx {f fN CN : Addr} {fd : FuncData} (F : Fun K "check_number" "check_number" sChkNum f fd) (N : Dn P w K mg base 1 "is_number" fN spIsNum) (X : Err K mg "InvalidNumber" CN) : FnOk P w K mg base (L2.CX P w) 2 f fd ["value", "least", "most"] (spNumX CN) := by
  refine F.okX scChkNum (fun vs H Q E h => ?_) (fun cdv A outer s H vs Q E hr h => ?_)
  · obtain ⟨v, a, b, rfl, _⟩ := h
    rfl
  · obtain ⟨v, a, b, rfl, ha, hb, k1, k2⟩ := h
    obtain ⟨bmB, Bn, newId, initId, XF, Xq⟩ := X.ex
    refine ⟨_, pss_one (ps_if (pt_not (pt_val (pe_callR N.ok hr rfl N.at_ N.kp pass0 (pa_cons (pv 0) (pa_cons (pv 1) (pa_cons (pv 2) pa_nil))))))
      (pss_one (ps_raise rfl (takes_of rfl rfl rfl rfl) (pmk_any XF Xq X.at_ X.kp (raises_own X.sub X.ty) rfl (pa_cons (pe_joined (.cons pe_str (.cons (pe_fmt (pv 1)) (.cons pe_str (.cons (pe_fmt (pv 2)) .nil))))) pa_nil)))) pss_nil), ?_⟩
    refine ⟨_, rfl, _, rfl, _, rfl, v, a, b, rfl, _, rfl, ?_⟩
    by_cases c : a ≤ v ∧ v ≤ b
    · rw [decide_eq_true c]
      exact iteF (k1 c)
    · rw [decide_eq_false c]
      have l1 := text_len ha.1 ha.2
      have l2 := text_len hb.1 hb.2
      have l3 : (Str.ofString "a number is not from ").length ≤ 100 := by decide +kernel
      have l4 : (Str.ofString " to ").length ≤ 100 := by decide +kernel
      have l5 : Str.empty.length ≤ 100 := by decide +kernel
      refine iteT ⟨_, rfl, ?_, ⟨_, rfl, .inr ⟨a, rfl, log_small ha.1 ha.2, _, rfl, ?_, _, rfl, ?_, ⟨_, rfl, .inr ⟨b, rfl, log_small hb.1 hb.2, _, rfl, ?_, ⟨_, rfl⟩, k2 c⟩⟩⟩⟩⟩
      all_goals simp only [Str.length_append, sizeLine_eq]
      all_goals omega
end
end Cc

/-! isinstance of a caught error that bears a field. -/
namespace Cc
open PySem PySem.Spec PySem.Calls PyProof.Rows L2
open PySem.W (findIn specialIn takesIn subIn hasDictIn mroIn clsIn kitOne)
section
variable {prog : Program} {w : World} {A : Around} {E : Value → Shared → Prop} {K : PySem.W.Frag} {x D : Addr} {ox od : Obj}
/-- what its class is, asked of the error -/
theorem err_class {s : Shared} {Q : Option Value → Shared → Prop} (C : ExcC K D) (X : K.In s.heap) (I : PySem.W.InstAt s.heap x ox D (some od)) (h : Q (some (.ref D)) { s with toks := s.toks + 1 }) : wpAny (model prog w) A (getAttr? (.ref x) "__class__") Q E s := by
  have hc : (clsIn K D).isSome = true := let ⟨_, e, _⟩ := PySem.W.any_some C.hd; by rw [e]; rfl
  have hf := PySem.W.findObj_data (od := od) hc C.ha C.hn C.ht
  obtain ⟨hp, g, d, t, os⟩ := s
  have ty := I.type (M := model prog w)
  have at1 := PySem.W.looks_findIn (M := model prog w) X C.hg
  have at2 := PySem.W.looks_findIn (M := model prog w) X C.hk
  have at3 := PySem.W.looks_find (M := model prog w) X I hf
  have isE : PySem.W.Looks (model prog w) hp (isInstance (.ref x) (.type "BaseException")) true := ty.andThen (PySem.W.looks_subIn X C.hs)
  have no : ¬ (onTheHeap (Value.ref D) && Value.builtin "BaseException.__getattribute__" == Value.builtin "object.__getattribute__") = true := by rw [show (Value.builtin "BaseException.__getattribute__" == Value.builtin "object.__getattribute__") = false by decide +kernel]; simp
  unfold getAttr? getAttrBy? getAttrBy; refine wpAny_bind (wpAny_mkText (wpAny_bind (wpAny_attempt (wpAny_holding (wpAny_bind (ty.at (wpAny_bind (at1.at ?_))))))))
  show wpAny _ _ (if (onTheHeap (Value.ref D) && Value.builtin "BaseException.__getattribute__" == Value.builtin "object.__getattribute__") = true then _ else _) _ _ _; rw [if_neg no]
  unfold getAttrByItsOwn hookBefore; refine wpAny_bind ?_; rw [if_pos (show onTheHeap (Value.ref D) = true from rfl)]
  refine at2.at (wpAny_bind (wpAny_attempt (wpAny_holding ?_)))
  unfold callGetattribute; rw [show (false && onTheHeap (Value.builtin "BaseException.__getattribute__")) = false from rfl, if_neg Bool.false_ne_true]
  unfold boundAndCalled; rw [PySem.F.excAttr_ValueError.ga.bind (.ref x)]; refine wpAny_bind (wpAny_pure ?_)
  show wpAny _ _ (call (.builtin "BaseException.__getattribute__") [.ref x, .str "__class__" t]) _ _ _; refine wpAny_call (codeAny_call_builtin PySem.F.excAttr_ValueError.ga.plain PySem.F.entry_bexc_ga (@PySem.W.check_slot (model prog w) _ _ ⟨hp, g, d, t + 1, os⟩ "BaseException.__getattribute__" "BaseException" "__getattribute__" (.ref x) [.str "__class__" t] [] _ (by decide +kernel) (by decide +kernel) isE (PySem.F.args_bexc_ga (.ref x) (.str "__class__" t)) ?_))
  unfold Builtin.«object.__getattribute__»; refine wpAny_bind (wpAny_of_eq (a := ((Value.ref x : Value), [Value.str "__class__" t])) (by first | rfl | (simp only [slotArgs]; rfl)) (wpAny_bind (wpAny_pure (wpAny_bind (ty.at (wpAny_bind (at3.at ?_)))))))
  show wpAny _ _ (holding [Value.builtin "object.__class__"] (call (.builtin "getset_descriptor.__get__") [.builtin "object.__class__", .ref x, .ref D]) >>= ret) _ _ _; refine wpAny_bind (wpAny_holding (wpAny_call (PySem.W.class_get (s := ⟨hp, g, d, t + 1, os⟩) (ox := ox) (od := some od) X I C.hm (wpAny_pure ?_))))
  show wpAny _ _ (handedOut (.ref D)) _ _ _; rw [PySem.W.handedOut_of (v := .ref D) rfl]
  first | exact wpAny_pure (wpAny_pure h) | exact wpAny_pure h | exact wpAny_pure (wpAny_bind (wpAny_pure (wpAny_pure h)))
theorem cls_self (hd : hasDictIn K D = true) (t : PySem.W.typeIn K (.ref D) = some (.type "type")) (h : subIn K (.ref D) (.ref D) = some true) : PySem.W.kitCls K (.ref D) (.ref D) = some true := by
  have i2 : (clsIn K D).isSome = true := let ⟨_, e, _⟩ := PySem.W.any_some hd; by rw [e]; rfl
  unfold PySem.W.kitCls
  simp only [i2, t, h]
  rfl
theorem err_kit (C : ExcC K D) (t : PySem.W.typeIn K (.ref D) = some (.type "type")) (hs : subIn K (.ref D) (.ref D) = some true) : PySem.W.KitX K (.ref x) (.ref D) (fun h => PySem.W.InstAt h x ox D (some od)) where
  ty := fun _ _ _ I => I.type
  it := fun _ _ X _ => (PySem.W.kit_cls X (cls_self C.hd t hs)).2.1
  ne := (PySem.W.handS_kitx_exc (x := x) (ox := ox) C.hg C.hk C.hs C.hd C.ha C.hn C.ht C.hm).ne
  ca := fun X I k => err_class C X I k
end
/-- isinstance(e, c), e the error that the suite holds, dd its dict -/
def rIsF (K : PySem.W.Frag) (D a dd : Addr) : List V → Hp → VK → Prop := fun xs H Q => ∃ (c : V) (cv : Value) (b : Bool), xs = [.ref a, c] ∧ (∃ fs, H dd = some (.xd fs)) ∧ (∀ u, RelV c u → u = cv) ∧ kitOne K (.ref D) cv = some b ∧ Q (.bl b) H
theorem call_isF {X : Cx} {a D dd : Addr} {oe : Obj} {pn : List (Addr × Obj)} (C : ExcC X.K D) (t : PySem.W.typeIn X.K (.ref D) = some (.type "type")) (hs : subIn X.K (.ref D) (.ref D) = some true) (hz : Zc (.ref D) (some dd) oe) (hf : ∃ vs, oe.data = .fields vs) : CallR (X.suite a ((a, oe) :: pn)) (.builtin "isinstance") (rIsF X.K D a dd) := by
  intro pins s σ H xs us Q I r ⟨c, cv, b, ex, ⟨fs, ed⟩, hcv, e, q⟩
  subst ex
  match us, r with
  | [_, u], .cons rx (.cons rt .nil) =>
    cases rx
    have ec := hcv _ rt
    subst ec
    obtain ⟨hget, _⟩ := I.pin (a, oe) (List.mem_append_left _ List.mem_cons_self)
    obtain ⟨vs, hv⟩ := hf
    obtain ⟨mA, hns, _⟩ := (show ObjOk X.prog X.w H s.heap dd (.xd fs) from I.hok dd _ ed)
    obtain ⟨od, ho, _⟩ := lookIn_ns hns
    have J : PySem.W.InstAt s.heap a oe D (some od) := ⟨hget, hz.1, by unfold PySem.W.notCls; rw [hv] <;> rfl, by rw [hz.2]; exact ho⟩
    exact PySem.W.kia_one (err_kit C t hs) I.kIn J e (fun z => nomatch z) fun tk => ⟨.bl b, H, I.kept (t' := tk) fun _ _ z => z, rfl, q⟩
/-- .. with a field or without one -/
def rIsG (K : PySem.W.Frag) (D a : Addr) (d : Option Addr) : List V → Hp → VK → Prop := fun xs H Q => ∃ (c : V) (cv : Value) (b : Bool), xs = [.ref a, c] ∧ (∀ dd, d = some dd → ∃ fs, H dd = some (.xd fs)) ∧ (∀ u, RelV c u → u = cv) ∧ kitOne K (.ref D) cv = some b ∧ Q (.bl b) H
theorem call_isG {X : Cx} {a D : Addr} {d : Option Addr} {oe : Obj} {pn : List (Addr × Obj)} (C : ExcC X.K D) (t : PySem.W.typeIn X.K (.ref D) = some (.type "type")) (hs : subIn X.K (.ref D) (.ref D) = some true) (hz : Zc (.ref D) d oe) (hf : ∃ vs, oe.data = .fields vs) : CallR (X.suite a ((a, oe) :: pn)) (.builtin "isinstance") (rIsG X.K D a d) := by
  intro pins s σ H xs us Q I r ⟨c, cv, b, ex, ed, hcv, e, q⟩
  cases d with
  | none => exact call_isE C hz hf pins s σ H xs us Q I r ⟨c, cv, b, ex, hcv, e, q⟩
  | some dd => exact call_isF C t hs hz hf pins s σ H xs us Q I r ⟨c, cv, b, ex, ed dd rfl, hcv, e, q⟩
end Cc

namespace Cc
open PySem PySem.Spec PyProof.Rows L2
/-- where the nine classes of errors stand -/
structure Nine (mg : Str → Option Value) (e0 e1 e2 e3 e4 e5 e6 e7 e8 : Addr) : Prop where
  t0 : mg "DaybookError" = some (.ref e0)
  t1 : mg "DecodeError" = some (.ref e1)
  t2 : mg "InvalidBooking" = some (.ref e2)
  t3 : mg "InvalidNumber" = some (.ref e3)
  t4 : mg "InvalidOperation" = some (.ref e4)
  t5 : mg "InvalidPlan" = some (.ref e5)
  t6 : mg "InvalidText" = some (.ref e6)
  t7 : mg "NotEnough" = some (.ref e7)
  t8 : mg "TooFewChairs" = some (.ref e8)
/-- one of them, asked which it is -/
structure KindA (K : PySem.W.Frag) (D e0 e1 e2 e3 e4 e5 e6 e7 e8 : Addr) (b0 b1 b2 b3 b4 b5 b6 b7 b8 : Bool) : Prop where
  ec : ExcC K D
  xf : XfC K D
  tt : PySem.W.typeIn K (.ref D) = some (.type "type")
  ss : PySem.W.subIn K (.ref D) (.ref D) = some true
  nI : PySem.W.findIn K (.ref D) "index" = some none
  nR : PySem.W.findIn K (.ref D) "row" = some none
  nO : PySem.W.findIn K (.ref D) "offset" = some none
  k0 : PySem.W.kitOne K (.ref D) (.ref e0) = some b0
  k1 : PySem.W.kitOne K (.ref D) (.ref e1) = some b1
  k2 : PySem.W.kitOne K (.ref D) (.ref e2) = some b2
  k3 : PySem.W.kitOne K (.ref D) (.ref e3) = some b3
  k4 : PySem.W.kitOne K (.ref D) (.ref e4) = some b4
  k5 : PySem.W.kitOne K (.ref D) (.ref e5) = some b5
  k6 : PySem.W.kitOne K (.ref D) (.ref e6) = some b6
  k7 : PySem.W.kitOne K (.ref D) (.ref e7) = some b7
  k8 : PySem.W.kitOne K (.ref D) (.ref e8) = some b8
  kv : PySem.W.kitOne K (.ref D) (.type "ValueError") = some true
abbrev words9 : List V := [.str "daybook", .str "code", .str "booking", .str "number", .str "operation", .str "plan", .str "text", .str "enough", .str "few"]
/-- the flags say kind j, whose word is wd -/
structure Flags (b0 b1 b2 b3 b4 b5 b6 b7 b8 : Bool) (j : Nat) (wd : Str) : Prop where
  one : (List.countP (fun z => PyData.eqv z (.bool true)) [PyData.bool b0, .bool b1, .bool b2, .bool b3, .bool b4, .bool b5, .bool b6, .bool b7, .bool b8]) = 1
  sh : SeqAt.shaped (.list [PyData.bool b0, .bool b1, .bool b2, .bool b3, .bool b4, .bool b5, .bool b6, .bool b7, .bool b8]) = true
  pl : PyData.plainAll [PyData.bool b0, .bool b1, .bool b2, .bool b3, .bool b4, .bool b5, .bool b6, .bool b7, .bool b8] = true
  at_ : [PyData.bool b0, .bool b1, .bool b2, .bool b3, .bool b4, .bool b5, .bool b6, .bool b7, .bool b8][j]? = some (.bool true)
  no : ∀ m z, m < j → [PyData.bool b0, .bool b1, .bool b2, .bool b3, .bool b4, .bool b5, .bool b6, .bool b7, .bool b8][m]? = some z → PyData.eqv z (.bool true) = false
  wd : words9[j]? = some (.str wd)
theorem flags_few : Flags false false false false false false false false true 8 "few" := ⟨by decide +kernel, by decide +kernel, by decide +kernel, rfl, fun m z hm hz => by
  match m, hm with
  | 0, _ => cases hz; decide +kernel
  | 1, _ => cases hz; decide +kernel
  | 2, _ => cases hz; decide +kernel
  | 3, _ => cases hz; decide +kernel
  | 4, _ => cases hz; decide +kernel
  | 5, _ => cases hz; decide +kernel
  | 6, _ => cases hz; decide +kernel
  | 7, _ => cases hz; decide +kernel, rfl⟩
theorem flags_enough : Flags false false false false false false false true false 7 "enough" := ⟨by decide +kernel, by decide +kernel, by decide +kernel, rfl, fun m z hm hz => by
  match m, hm with
  | 0, _ => cases hz; decide +kernel
  | 1, _ => cases hz; decide +kernel
  | 2, _ => cases hz; decide +kernel
  | 3, _ => cases hz; decide +kernel
  | 4, _ => cases hz; decide +kernel
  | 5, _ => cases hz; decide +kernel
  | 6, _ => cases hz; decide +kernel, rfl⟩
theorem flags_number : Flags false false false true false false false false false 3 "number" := ⟨by decide +kernel, by decide +kernel, by decide +kernel, rfl, fun m z hm hz => by
  match m, hm with
  | 0, _ => cases hz; decide +kernel
  | 1, _ => cases hz; decide +kernel
  | 2, _ => cases hz; decide +kernel, rfl⟩
theorem flags_booking : Flags false false true false false false false false false 2 "booking" := ⟨by decide +kernel, by decide +kernel, by decide +kernel, rfl, fun m z hm hz => by
  match m, hm with
  | 0, _ => cases hz; decide +kernel
  | 1, _ => cases hz; decide +kernel, rfl⟩
end Cc

/-! Generators that a comprehension drains: its list S grows, its own names (at C) change while the generator sleeps; a for with a yield. -/
namespace Cc
open PySem PySem.Spec PyProof.Rows L2 GenW
/-- names stand in such an object at C -/
def LocO (C : Addr) (o : Obj) : Prop := (∃ m, ∀ h : Heap, h.get? C = some o → h.Ns C m) ∧ ∀ v, o.data ≠ .cell v
/-- what the consumer does between two items -/
structure Nap (S C : Addr) (v : Value) (s s' : Shared) : Prop where
  os : s'.os = s.os
  bare : AllBare s'.gens
  keep : ∀ b o, b ≠ S → b ≠ C → s.heap.get? b = some o → s'.heap.get? b = some o
  grow : ∀ vs n, s.heap.get? S = some (lstObj vs n) → ∃ n', s'.heap.get? S = some (lstObj (vs.push v) n')
  loc : ∃ o, LocO C o ∧ s'.heap.get? C = some o
def Run (X : Cx) (S C : Addr) (ip : List (Addr × Obj)) (ys : List V) (σ : L2.St) (H : Hp) (s : Shared) : Prop := ∃ o, LocO C o ∧ GI X S ((C, o) :: ip) ys σ H s
/-- the two lie apart from the generator's own -/
structure Far (X : Cx) (S C : Addr) (ip : List (Addr × Obj)) : Prop where
  ne : S ≠ C
  aS : Apart X S
  aC : Apart X C
  pS : ∀ p ∈ X.pn ++ ip, p.1 ≠ S
  pC : ∀ p ∈ X.pn ++ ip, p.1 ≠ C
theorem Run.woken {X : Cx} {S C : Addr} {ip : List (Addr × Obj)} {ys : List V} {x : V} {v : Value} {σ : L2.St} {H : Hp} {s s' : Shared} (F : Far X S C ip) (h : Run X S C ip ys σ H s) (rv : RelV x v) (z : Nap S C v s s') : Run X S C ip (ys ++ [x]) σ H s' := by
  obtain ⟨o, ho, acc, c, r, I⟩ := h
  obtain ⟨eS, nS, lS, fS, _⟩ := I.pin (S, lstObj acc c) (List.mem_append_right _ List.mem_cons_self)
  obtain ⟨eC, nC, lC, fC, _⟩ := I.pin (C, o) (List.mem_append_right _ (List.mem_cons_of_mem _ List.mem_cons_self))
  have I0 : Inv X ip σ H s := I.pins_of fun p hp => I.pin p (List.mem_append_right _ (List.mem_cons_of_mem _ (List.mem_cons_of_mem _ hp)))
  obtain ⟨z1, z2, z3, z4, o', ho', eC'⟩ := z
  obtain ⟨cS, eS'⟩ := z4 acc c eS
  obtain ⟨hq, gq, dq, tq, os⟩ := s'
  cases (show os = s.os from z1)
  have far : ∀ b, b ∉ [S, C] → b ≠ S ∧ b ≠ C := fun b hb => ⟨fun e => hb (by rw [e]; exact List.mem_cons_self), fun e => hb (by rw [e]; exact List.mem_cons_of_mem _ List.mem_cons_self)⟩
  have old : ∀ b ob, b ∉ [S, C] → s.heap.get? b = some ob → hq.get? b = some ob := fun b ob hb q => z3 b ob (far b hb).1 (far b hb).2 q
  have tr : ∀ b u, H b = some u → b ≠ S ∧ b ≠ C := fun b u q => ⟨fun e => (by rw [e, nS] at q; cases q), fun e => (by rw [e, nC] at q; cases q)⟩
  have J : Inv X ip σ H { s with heap := hq, gens := gq, drawn := dq, toks := tq } := by
    refine I0.step (g' := gq) (t' := tq) (d' := dq) (ch := [S, C]) (fun b hb => ?_) (fun b ob _ _ hc q _ => old b ob hc q) (fun b ob _ _ hc q _ => ⟨ob.slots, old b ob hc q⟩) (fun _ _ _ _ n => n)
      (fun b ob hc q => ⟨ob, old b ob hc q⟩) (fun _ _ q => q) (fun _ _ _ q => q) (fun b ps q => ⟨#[], by rw [q]; simp⟩) (fun m hm => ?_) (fun b u q => ?_) z2
    · rcases List.mem_cons.mp hb with e | e
      · rw [e]
        exact ⟨.inr F.aS.1, F.aS.2.1, F.aS.2.2, F.pS⟩
      · have e2 := List.mem_singleton.mp e
        rw [e2]
        exact ⟨.inr F.aC.1, F.aC.2.1, F.aC.2.2, F.pC⟩
    · obtain ⟨ob, es, ep, hob, rest⟩ := hm
      exact ⟨ob, es, ep, z3 _ ob (Ne.symm lS) (Ne.symm lC) hob, rest⟩
    · refine (I0.hok b u q).stay (fun e w hc y => ?_) (fun _ y => y) fun _ _ y => y
      have ne : e ≠ S ∧ e ≠ C := by
        rcases hc with y | y
        · rw [y]
          exact tr b u q
        · exact tr e _ y
      exact z3 e w ne.1 ne.2 y
  refine ⟨o', ho', acc.push v, cS, ?_, J.pins_of fun p hp => ?_⟩
  · rw [Array.toList_push]
    exact r.append (.cons rv (.nil))
  · rcases List.mem_cons.mp hp with e | hp
    · rw [e]
      exact ⟨eS', nS, lS, fS, fun v q => by cases q⟩
    · rcases List.mem_cons.mp hp with e | hp
      · rw [e]
        exact ⟨eC', nC, lC, fC, ho'.2⟩
      · exact J.pin p (List.mem_append.mpr (.inr hp))
/-! ### the protocol -/
def YP (X : Cx) (S C : Addr) : Protocol := fun n s₀ v s kap => ∃ ys x ip σ H, n + 1 + ys.length = sizeLine ∧ RelV x v ∧ Run X S C ip ys σ H s ∧ ∀ s', Nap S C v s s' → kap (.send .none) s'
def RP (X : Cx) (S C : Addr) (Q : List V → VK) (F : Value → Shared → Prop) : GenEnd := fun n s₀ r s => match r with
  | .ok (.ret u) => ∃ ys v ip σ H, n + ys.length = sizeLine ∧ Run X S C ip ys σ H s ∧ RelV v u ∧ Q ys v H
  | .ok _ => False
  | .error e => F e s
def FlowP (X : Cx) (S C : Addr) (ip : List (Addr × Obj)) (D : GEnds) (ys : List V) (f : Flow) (s : Shared) : Prop :=
  match f with
  | .next => ∃ σ H, Run X S C ip ys σ H s ∧ D.nx ys σ H
  | .brk => ∃ σ H, Run X S C ip ys σ H s ∧ D.bk ys σ H
  | .cont => ∃ σ H, Run X S C ip ys σ H s ∧ D.ct ys σ H
  | .ret u => ∃ v σ H, Run X S C ip ys σ H s ∧ RelV v u ∧ D.rt ys v H
structure Here (X : Cx) (S C : Addr) (ip : List (Addr × Obj)) (A : Around) (c : Code) (fs : List Frame) (gd : Bool → Bool) : Prop where
  far : Far X S C ip
  over : A.over c fs = X.A
  split : splitAtGen fs = none
  bare : fs.any Frame.guarded = false
  gd : gd false = false
structure Then (X : Cx) (S C : Addr) (ip : List (Addr × Obj)) (A : Around) (R : GenEnd) (c : Code) (fs : List Frame) (K : Flow → Sem PySem.Fin) (J : Value → Sem PySem.Fin) (D : GEnds) : Prop where
  ok : ∀ (n : Nat) (ys : List V) (s₀ s : Shared) (f : Flow), n + ys.length = sizeLine → FlowP X S C ip D ys f s → Seg (model X.prog X.w) A R (YP X S C) n s₀ c (K f) fs s
  exc : ∀ (n : Nat) (s₀ : Shared) (e : Value) (s : Shared), X.xe e s → Seg (model X.prog X.w) A R (YP X S C) n s₀ c (J e) fs s
/-- a tree of the body, wrapped, runs so -/
def Goes (X : Cx) (T : Sem Flow) (t : TGn) : Prop :=
  ∀ (A : Around) (S C : Addr) (ip : List (Addr × Obj)) (R : GenEnd) (n : Nat) (ys : List V) (s₀ : Shared) (c : Code) (fs : List Frame) (K : Flow → Sem PySem.Fin) (J : Value → Sem PySem.Fin) (gd : Bool → Bool) (lv : List Value → List Value) (s : Shared) (σ : L2.St) (H : Hp) (D : GEnds),
    Here X S C ip A c fs gd → n + ys.length = sizeLine → Then X S C ip A R c fs K J D → Run X S C ip ys σ H s → t D ys σ H → Seg (model X.prog X.w) A R (YP X S C) n s₀ c (T.wrap K J gd lv) fs s
section
variable {st : Stmt} {rest : List Stmt} {X : Cx}
theorem flow_of {S C : Addr} {acc : Array Value} {c : Nat} {o : Obj} {ip : List (Addr × Obj)} {s : Shared} {D : GEnds} {ys : List V} {f : Flow} (ho : LocO C o) (r : Vals ys acc.toList) (h : SP X ((S, lstObj acc c) :: (C, o) :: ip) (D.at ys) f s) : FlowP X S C ip D ys f s := by
  cases f with
  | ret u =>
    obtain ⟨v, σ, H, I, r1, q⟩ := h
    exact ⟨v, σ, H, ⟨o, ho, acc, c, r, I⟩, r1, q⟩
  | next =>
    obtain ⟨σ, H, I, q⟩ := h
    exact ⟨σ, H, ⟨o, ho, acc, c, r, I⟩, q⟩
  | brk =>
    obtain ⟨σ, H, I, q⟩ := h
    exact ⟨σ, H, ⟨o, ho, acc, c, r, I⟩, q⟩
  | cont =>
    obtain ⟨σ, H, I, q⟩ := h
    exact ⟨σ, H, ⟨o, ho, acc, c, r, I⟩, q⟩
theorem gb_plain {t : TS} (h : PS X st t) : Goes X (exec st X.env) (tPlain t) := by
  intro A S C ip R n ys s₀ c fs K J gd lv s σ H D g hn k hI ht
  obtain ⟨o, ho, acc, cc, r, I⟩ := hI
  refine seg_wrap ?_
  rw [g.over]
  exact wpAny_mono (h.run _ s σ H (D.at ys) I ht) (fun f s' q => k.ok n ys s₀ s' f hn (flow_of ho r q)) fun x s' q => k.exc n s₀ x s' q
theorem gb_nil : Goes X (execs [] X.env) tG0 := by
  intro A S C ip R n ys s₀ c fs K J gd lv s σ H D g hn k hI ht
  refine seg_execs_nil ?_
  exact k.ok n ys s₀ s .next hn ⟨σ, H, hI, ht⟩
theorem gb_cons {t u : TGn} (a : Goes X (exec st X.env) t) (b : Goes X (execs rest X.env) u) : Goes X (execs (st :: rest) X.env) (tGThen t u) := by
  intro A S C ip R n ys s₀ c fs K J gd lv s σ H D g hn k hI ht
  refine seg_execs_cons (a A S C ip R n ys s₀ c fs _ J gd lv s σ H { D with nx := fun ys' σ' H' => u D ys' σ' H' } g hn ⟨fun n' ys' s₀' s' f hn' q => ?_, k.exc⟩ hI ht)
  cases f with
  | next =>
    obtain ⟨σ', H', I', q⟩ := q
    exact b A S C ip R n' ys' s₀' c fs K J gd lv s' σ' H' D g hn' k I' q
  | ret u => exact k.ok n' ys' s₀' s' (.ret u) hn' q
  | brk => exact k.ok n' ys' s₀' s' .brk hn' q
  | cont => exact k.ok n' ys' s₀' s' .cont hn' q
theorem gb_yield {e : Expr} {yp pos : Pos} {te : TE} (he : PE X e te) (hco : X.env.scope.isCoroutine = false := by rfl) (hi : interactive X.env = false := by rfl) : Goes X (exec (.Expr (.Yield (some e) yp) pos) X.env) (tGYield te) := by
  intro A S C ip R n ys s₀ c fs K J gd lv s σ H D g hn k hI ht
  obtain ⟨room, ht⟩ := ht
  obtain ⟨n, rfl⟩ : ∃ j, n = j + 1 := ⟨n - 1, by omega⟩
  obtain ⟨o, ho, acc, cc, r, I⟩ := hI
  refine seg_Expr_Yield g.split g.gd g.bare ?_ hco hi
  rw [g.over]
  refine wpAny_mono (he.run _ s σ H _ I ht) (fun v s' hv => ?_) fun x s' q => k.exc _ s₀ x s' q
  obtain ⟨y, H1, I1, rv, q⟩ := hv
  have G1 : Run X S C ip ys σ H1 s' := ⟨o, ho, acc, cc, r, I1⟩
  refine fun kap hk => ⟨ys, y, ip, σ, H1, hn, rv, G1, fun s2 z => hk .none s2 (k.ok n (ys ++ [y]) s2 s2 .next ?_ ⟨σ, H1, G1.woken g.far rv z, q⟩)⟩
  rw [List.length_append]
  show n + (ys.length + 1) = _
  omega
end
/-! ### a for amid -/
section
variable {prog : Program} {w : World} {A : Around} {R : GenEnd} {Y : Protocol} {n : Nat} {s₀ s : Shared} {fs : List Frame} {env : Env} {tg : Expr} {it : Value} {body : List Stmt}
/-- an exception out of the loop's code -/
abbrev outX (env : Env) (e : Value) : Sem PySem.Fin := (do noteFrame e env; theTreesLotGoes e : Sem Unit).wrap (fun _ => .raise e) .raise id id
theorem seg_turn (h : wpAny (model prog w) (A.over (.forLoop tg it body [] env) fs) (pyNext it) (fun r s1 => match r with
      | none => Seg (model prog w) A R Y n s₀ (.block [] env) ((model prog w).den (.block [] env)) fs s1
      | some v => wpAny (model prog w) (A.over (.forLoop tg it body [] env) fs) (letOwnedTupleGo tg it v) (fun _ s2 => wpAny (model prog w) (A.over (.forLoop tg it body [] env) fs) (assign tg env v) (fun _ s3 =>
          Seg (model prog w) A R Y n s₀ (.forLoop tg it body [] env) ((execs body env).wrap (fun f => match f with
            | .next | .cont => .pure (.again (.forLoop tg it body [] env))
            | .brk => .pure (.done .next)
            | .ret v => .pure (.done (.ret v))) (outX env) id id) fs s3)
          (fun x s' => Seg (model prog w) A R Y n s₀ (.forLoop tg it body [] env) (outX env x) fs s') s2)
          (fun x s' => Seg (model prog w) A R Y n s₀ (.forLoop tg it body [] env) (outX env x) fs s') s1)
      (fun x s' => Seg (model prog w) A R Y n s₀ (.forLoop tg it body [] env) (outX env x) fs s') s) :
    Seg (model prog w) A R Y n s₀ (.forLoop tg it body [] env) ((model prog w).den (.forLoop tg it body [] env)) fs s := by
  show Seg _ A R Y n s₀ _ ((forTurn tg it body [] env).onRaise (fun x => do noteFrame x env; theTreesLotGoes x)) fs s
  have ex : ∀ (x : Value) (s' : Shared), Seg (model prog w) A R Y n s₀ (.forLoop tg it body [] env) (outX env x) fs s' → Seg (model prog w) A R Y n s₀ (.forLoop tg it body [] env) ((do noteFrame x env; theTreesLotGoes x : Sem Unit).bind fun _ => .raise x) fs s' := fun x s' q => by
    rw [Sem.bind_eq_wrap]
    exact q
  rw [Sem.onRaise_eq_wrap]
  unfold forTurn
  refine seg_bind_wrap (wpAny_standAt (seg_bind_wrap (wpAny_onRaise (wpAny_mono h (fun r s1 h1 => ?_) fun x s' q => wpAny_standAt (ex x s' q)))))
  cases r with
  | none => exact seg_again rfl h1
  | some v =>
    refine seg_bind_wrap (wpAny_mono h1 (fun _ s2 h2 => ?_) fun x s' q => ex x s' q)
    refine seg_bind_wrap (wpAny_mono h2 (fun _ s3 h3 => ?_) fun x s' q => ex x s' q)
    rw [Sem.bind_eq_wrap', Sem.wrap_wrap]
    exact Eq.mpr (congrArg (fun t => Seg (model prog w) A R Y n s₀ (.forLoop tg it body [] env) t fs s3) (Sem.wrap_congr (execs body env) id id (fun f => by cases f <;> rfl) fun e => Sem.bind_eq_wrap _ _)) h3
end
section
variable {X : Cx}
theorem here_in {S C : Addr} {ip : List (Addr × Obj)} {A : Around} {c c' : Code} {fs : List Frame} {gd : Bool → Bool} {k : Result → Sem PySem.Fin} {l kp : List Value} {p : Pos} (g : Here X S C ip A c fs gd) (hw : c'.weight = 0) (hu : c'.cUnits = 0) {ip' : List (Addr × Obj)} (hf : Far X S C ip') :
    Here X S C ip' A c' (.ret k none (gd false) l c p kp :: fs) id := by
  refine ⟨hf, (over_loop hw hu).trans g.over, ?_, ?_, rfl⟩
  · change (splitAtGen fs).map _ = none
    rw [g.split]
    rfl
  · change (gd false || fs.any Frame.guarded) = false
    rw [g.gd, g.bare]
    rfl
theorem seg_back {S C : Addr} {ip : List (Addr × Obj)} {A : Around} {R : GenEnd} {c : Code} {fs : List Frame} {K : Flow → Sem PySem.Fin} {J : Value → Sem PySem.Fin} {gd : Bool → Bool} {lv : List Value → List Value} {D : GEnds} {n : Nat} {s₀ s : Shared} {e : Value}
    (g : Here X S C ip A c fs gd) (k : Then X S C ip A R c fs K J D) (h : cameBackBy (model X.prog X.w) X.A X.env X.xe e s) :
    Seg (model X.prog X.w) A R (YP X S C) n s₀ c (((Sem.raise e : Sem Flow).onRaise (cameBack X.env)).wrap K J gd lv) fs s := by
  show Seg _ _ _ _ n s₀ c (((cameBack X.env e).bind fun _ => (Sem.raise e : Sem Flow)).wrap K J gd lv) fs s
  rw [Sem.bind_eq_wrap (cameBack X.env e), Sem.wrap_wrap]
  refine seg_wrap ?_
  rw [g.over]
  refine wpAny_mono h (fun _ s2 q => ?_) fun x s2 q => k.exc n s₀ x s2 q
  exact k.exc n s₀ e s2 q
def tGFor (wi : TI) (g : TG) (tb : TGn) : TGn := fun D ys σ H => wi σ H fun J H1 => ∃ W : Nat → Nat → List V → L2.St → Hp → Prop, (∃ m, W 0 m ys σ H1) ∧ ∀ i m ys σ H, W i m ys σ H →
  (J.stop i H ∧ D.nx ys σ H) ∨ (J.go i H ∧ ∃ N : List V → L2.St → Hp → Prop, (∀ ys' σ' H', N ys' σ' H' → ∃ m', m' < m ∧ W (i + 1) m' ys' σ' H') ∧ ∀ x H', J.yld i H x H' → g x σ H' fun σ2 H2 => tb { D with nx := N, ct := N, bk := D.nx } ys σ2 H2)
theorem Run.unpin {S C : Addr} {ip : List (Addr × Obj)} {fp : List Addr} {h : Heap} {ys : List V} {σ : L2.St} {H : Hp} {s : Shared} (q : Run X S C (ip ++ pinsAt fp h) ys σ H s) : Run X S C ip ys σ H s :=
  let ⟨o, ho, acc, c, r, I⟩ := q
  ⟨o, ho, acc, c, r, (show Inv X (((S, lstObj acc c) :: (C, o) :: ip) ++ pinsAt fp h) σ H s from I).unpinned⟩
theorem gb_for {tg iter : Expr} {body : List Stmt} {wi : TI} {g : TG} {tb : TGn} {pos : Pos} (hp : PassesOwn (model X.prog X.w) X.A X.env X.xe) (hc : X.calm = true) (hi : PI X tg iter wi) (hg : PG X tg g) (hb : Goes X (execs body X.env) tb)
    (hs : ∀ x, foldedSetIterable iter X.env x = pure x := by intro _; rfl) : Goes X (exec (.For tg iter body [] pos) X.env) (tGFor wi g tb) := by
  intro A S C ip R n ys s₀ c fs K J gd lv s σ H D gh hn k hI ht
  obtain ⟨o, ho, acc, cc, r, I⟩ := hI
  rw [exec_For]
  refine seg_bind_wrap (wpAny_standAt (seg_bind_wrap ?_))
  rw [gh.over]
  refine wpAny_mono (hi.run _ s σ H _ I ht) (fun v s1 h1 => ?_) fun x s' q => k.exc n s₀ x s' q
  refine seg_bind_wrap (wpAny_of_eq (hs v) (seg_bind_wrap (wpAny_standAt (seg_bind_wrap (wpAny_holding ?_)))))
  rw [gh.over]
  refine wpAny_mono h1 (fun itv s2 h2 => ?_) fun x s' q => k.exc n s₀ x s' q
  obtain ⟨it, fp, tn, Jt, H2, e, I2, T, st2, f2, W, ⟨m0, w0⟩, turn⟩ := h2
  subst e
  refine seg_call fun p => ?_
  -- where the iterator's own objects lie
  have apart : ∀ b ∈ fp, (b ≠ X.env.locals ∧ b ∉ X.fs ∧ (b ∈ X.ex ∨ X.s_0.heap.objs.size ≤ b) ∧ ∀ x c, X.env.cells.lookup x = some c → c ≠ b) ∧ S ≠ b ∧ C ≠ b ∧ ∀ q ∈ X.pn ++ ip, q.1 ≠ b := fun b hb => by
    obtain ⟨_, z1, z2, z3, z4, z5⟩ := f2 b hb
    refine ⟨⟨z1, z2, z3, z4⟩, z5 (S, lstObj acc cc) (List.mem_append_right _ List.mem_cons_self), z5 (C, o) (List.mem_append_right _ (List.mem_cons_of_mem _ List.mem_cons_self)), fun q hq => ?_⟩
    rcases List.mem_append.mp hq with y | y
    · exact z5 q (List.mem_append_left _ y)
    · exact z5 q (List.mem_append_right _ (List.mem_cons_of_mem _ (List.mem_cons_of_mem _ y)))
  have stat : ∀ {acc' : Array Value} {c' : Nat} {o' : Obj} {H' : Hp}, (∀ b ∈ fp, H' b = none) → ∀ b ∈ fp, FpOk X ((S, lstObj acc' c') :: (C, o') :: ip) H' b := fun {acc' c' o' H'} hn b hb => by
    obtain ⟨⟨z1, z2, z3, z4⟩, z5, z6, z7⟩ := apart b hb
    refine ⟨hn b hb, z1, z2, z3, z4, fun q hq => ?_⟩
    rcases List.mem_append.mp hq with y | y
    · exact z7 q (List.mem_append_left _ y)
    · rcases List.mem_cons.mp y with y | y
      · rw [y]
        exact z5
      · rcases List.mem_cons.mp y with y | y
        · rw [y]
          exact z6
        · exact z7 q (List.mem_append_right _ y)
  have farP : ∀ h : Heap, Far X S C (ip ++ pinsAt fp h) := fun h => by
    have ofP : ∀ q ∈ X.pn ++ (ip ++ pinsAt fp h), q ∈ X.pn ++ ip ∨ q.1 ∈ fp := fun q hq => by
      rcases List.mem_append.mp hq with y | y
      · exact .inl (List.mem_append_left _ y)
      · rcases List.mem_append.mp y with y | y
        · exact .inl (List.mem_append_right _ y)
        · refine .inr ?_
          unfold pinsAt at y
          obtain ⟨b, hb, eb⟩ := List.mem_filterMap.mp y
          cases eo : h.get? b with
          | none =>
            rw [eo] at eb
            cases eb
          | some ob =>
            rw [eo] at eb
            cases eb
            exact hb
    exact ⟨gh.far.ne, gh.far.aS, gh.far.aC, fun q hq => (ofP q hq).elim (gh.far.pS q) fun y => (apart q.1 y).2.1.symm, fun q hq => (ofP q hq).elim (gh.far.pC q) fun y => (apart q.1 y).2.2.1.symm⟩
  have hl := fun (kk : Result → Sem PySem.Fin) (ip' : List (Addr × Obj)) (hf : Far X S C ip') => here_in (k := kk) (c' := .forLoop tg (.ref it) body [] X.env) (l := lv []) (kp := []) (p := p) gh rfl rfl hf
  have loop : ∀ (m n i : Nat) (ys : List V) (s₀ s : Shared) (σ : L2.St) (H : Hp), n + ys.length = sizeLine → W i m ys σ H → Run X S C ip ys σ H s → tn i s.heap → (∀ b ∈ fp, H b = none) →
      Seg (model X.prog X.w) A R (YP X S C) n s₀ (.forLoop tg (.ref it) body [] X.env) ((model X.prog X.w).den (.forLoop tg (.ref it) body [] X.env))
        (.ret (fun z => ((match z with | .ok f => (.pure f : Sem Flow) | .error e => .raise e).onRaise (cameBack X.env)).wrap K J gd lv) none (gd false) (lv []) c p [] :: fs) s := by
    intro m
    refine Nat.strongRecOn m fun m ih => ?_
    · intro n i ys s₀ s σ H hn w ⟨o, ho, acc, cc, r, I⟩ st fr
      have ee : ∀ (n : Nat) (s₀ : Shared) (x : Value) (s' : Shared), X.xe x s' → Seg (model X.prog X.w) A R (YP X S C) n s₀ (.forLoop tg (.ref it) body [] X.env) (outX X.env x)
          (.ret (fun z => ((match z with | .ok f => (.pure f : Sem Flow) | .error e => .raise e).onRaise (cameBack X.env)).wrap K J gd lv) none (gd false) (lv []) c p [] :: fs) s' := fun n s₀ x s' hx => by
        refine seg_wrap ?_
        rw [(hl _ ip gh.far).over]
        refine wpAny_bind (wpAny_mono (hp x s' hx) (fun _ s2 q => wpAny_theTreesLotGoes ?_) fun y s2 q => ?_)
        · exact seg_leaf (.error x) (seg_back gh k q)
        · exact seg_leaf (.error y) (seg_back gh k q)
      refine seg_turn ?_
      rw [(hl _ ip gh.far).over]
      rcases turn i m ys σ H w with ⟨halt, q⟩ | ⟨go, N, hN, step⟩
      · refine wpAny_mono (T.done X rfl rfl rfl hc i _ s σ H X.xe I (stat fr) st halt) (fun z s4 ⟨hz, I4⟩ => ?_) fun x s' q => ee n s₀ x s' q
        subst hz
        exact seg_leaf (.ok .next) (k.ok n ys s₀ s4 .next hn ⟨σ, H, ⟨o, ho, acc, cc, r, I4⟩, q⟩)
      · refine wpAny_mono (T.item X rfl rfl rfl hc i _ s σ H X.xe I (stat fr) st go) (fun z s4 ⟨u, hz, h4⟩ => ?_) fun x s' q => ee n s₀ x s' q
        subst hz
        refine wpAny_mono h4 (fun _ s5 ⟨x, H5, I5, r5, y5, st5, fr5⟩ => ?_) fun x s' q => ee n s₀ x s' q
        refine wpAny_mono (hg.run _ s5 σ H5 x u _ (I5.pinned (stat fr5) (T.obj _ _ st5)) r5 (step x H5 y5)) (fun _ s6 ⟨σ6, H6, I6, q6⟩ => ?_) fun x s' q => ee n s₀ x s' q
        have next : ∀ {n' : Nat} {ys' : List V} {s₀' s7 : Shared}, n' + ys'.length = sizeLine → (∃ σ' H', Run X S C (ip ++ pinsAt fp s5.heap) ys' σ' H' s7 ∧ N ys' σ' H') →
            Seg (model X.prog X.w) A R (YP X S C) n' s₀' (.forLoop tg (.ref it) body [] X.env) (.pure (.again (.forLoop tg (.ref it) body [] X.env)))
              (.ret (fun z => ((match z with | .ok f => (.pure f : Sem Flow) | .error e => .raise e).onRaise (cameBack X.env)).wrap K J gd lv) none (gd false) (lv []) c p [] :: fs) s7 := fun {n' ys' s₀' s7} hn' ⟨σ7, H7, R7, n7⟩ => by
          obtain ⟨m', hm, w7⟩ := hN ys' σ7 H7 n7
          have pin7 : ∀ b ∈ fp, ∀ ob, s5.heap.get? b = some ob → s7.heap.get? b = some ob ∧ H7 b = none := fun b hb ob e => by
            obtain ⟨o7, ho7, acc7, c7, r7, I7⟩ := R7
            have z := I7.pin (b, ob) (List.mem_append_right _ (List.mem_cons_of_mem _ (List.mem_cons_of_mem _ (List.mem_append_right _ (mem_pinsAt hb e)))))
            exact ⟨z.1, z.2.1⟩
          refine seg_again rfl (ih m' hm n' (i + 1) ys' s₀' s7 σ7 H7 hn' w7 R7.unpin (T.keep _ _ _ st5 fun b hb ob e => (pin7 b hb ob e).1) fun b hb => ?_)
          obtain ⟨ob, e, _⟩ := T.obj _ _ st5 b hb
          exact (pin7 b hb ob e).2
        refine hb A S C (ip ++ pinsAt fp s5.heap) R n ys s₀ _ _ _ _ id id s6 σ6 H6 { D with nx := N, ct := N, bk := D.nx } (hl _ _ (farP s5.heap)) hn ⟨fun n' ys' s₀' s7 f hn' q => ?_, fun n' s₀' x s7 q => ee n' s₀' x s7 q⟩ ⟨o, ho, acc, cc, r, I6⟩ q6
        cases f with
        | next => exact next hn' q
        | cont => exact next hn' q
        | brk =>
          obtain ⟨σ7, H7, R7, q⟩ := q
          exact seg_leaf (.ok .next) (k.ok n' ys' s₀' s7 .next hn' ⟨σ7, H7, R7.unpin, q⟩)
        | ret u =>
          obtain ⟨v7, σ7, H7, R7, r7, q⟩ := q
          exact seg_leaf (.ok (.ret u)) (k.ok n' ys' s₀' s7 (.ret u) hn' ⟨v7, σ7, H7, R7.unpin, r7, q⟩)
  exact loop m0 n 0 ys s₀ s2 σ H2 hn w0 ⟨o, ho, acc, cc, r, I2⟩ st2 fun b hb => (f2 b hb).1
end
end Cc

/-! A generator def that raises nothing, drained by a comprehension [x for x in f(..)]. -/
namespace Cc
open PySem PySem.Spec PyProof.Rows L2 GenW
/-- no exception is promised -/
abbrev noE : XK := fun _ _ _ => False
/-- arguments, the heap, what is wanted of all items and the heap at the end -/
abbrev SpY := List V → Hp → (List V → Hp → Prop) → Prop
def StopY (P : Program) (w : World) (outer : List Env) (H : Hp) (s : Shared) (S C : Addr) (Q : List V → Hp → Prop) (s1 : Shared) : Prop :=
  ∃ H' ys acc c oC, s1.os = s.os ∧ AllBare s1.gens ∧ Un (frs outer) [] H H' s.heap s1.heap ∧ HOk P w H' s1.heap ∧ (H' S = none ∧ s1.heap.get? S = some (lstObj acc c)) ∧ (Vals ys acc.toList ∧ ys.length ≤ sizeLine) ∧ (H' C = none ∧ LocO C oC ∧ s1.heap.get? C = some oC) ∧ Q ys H'
def EndY (P : Program) (w : World) (outer : List Env) (H : Hp) (s : Shared) (S C a : Addr) (g : Nat) (Q : List V → Hp → Prop) : GenEnd := fun n s₀ r s1 =>
  ((r = .ok (.ret .none) ∨ r = .ok .next) ∧ StopY P w outer H s S C Q s1) ∨ ∃ e, r = .error e ∧ False
def ItemY (s : Shared) (S C a : Addr) (g : Nat) : Protocol := fun n s₀ v s1 kap =>
  s1.os = s.os ∧ AllBare s1.gens ∧ s1.heap.NoLimit ∧ s1.heap.IsGen a g ∧ (∃ (acc : Array Value) (c : Nat), s1.heap.get? S = some (lstObj acc c) ∧ n + 1 + acc.size = sizeLine) ∧ (∃ oC, LocO C oC ∧ s1.heap.get? C = some oC) ∧ ∀ s', Nap S C v s1 s' → kap (.send .none) s'
/-- a generator that has not begun -/
def MadeY (P : Program) (w : World) (k : Nat) (outer : List Env) (H : Hp) (s : Shared) (Q : List V → Hp → Prop) (u : Value) (s' : Shared) : Prop :=
  ∃ (a : Addr) (g : Nat) (c : Code), u = .ref a ∧ (s.heap.objs.size ≤ a ∧ a < s'.heap.objs.size) ∧ s'.heap.IsGen a g ∧ s'.gens[g]? = some (.fresh c) ∧ s'.os = s.os ∧ AllBare s'.gens ∧ s'.heap.NoLimit ∧ (∀ b o, s.heap.get? b = some o → s'.heap.get? b = some o) ∧
    ∀ (A : Around) (S C : Addr) (s2 : Shared), Room k A → A.frames = some outer → s'.heap.objs.size ≤ S → s'.heap.objs.size ≤ C → S ≠ C → (∀ b o, s'.heap.get? b = some o → s2.heap.get? b = some o) → (∃ c, s2.heap.get? S = some (lstObj #[] c)) → (∃ o, LocO C o ∧ s2.heap.get? C = some o) → s2.os = s.os → AllBare s2.gens →
      Seg (model P w) A (EndY P w outer H s S C a g Q) (ItemY s S C a g) sizeLine s2 c ((model P w).den c) [] s2
structure GenY (P : Program) (w : World) (K : PySem.W.Frag) (mg : Str → Option Value) (base : Heap) (k : Nat) (f : Addr) (fd : FuncData) (ps : List Str) (sp : SpY) : Prop where
  len : ∀ vs H Q, sp vs H Q → vs.length = ps.length
  run : ∀ (A : Around) (outer : List Env) (s : Shared) (H : Hp) (args : Args) (us : List Value) (vs : List V) (Q : List V → Hp → Prop), Room k A → Env0 P w K mg base A outer s H → BindsTo s fd args (ps.zip us) → Vals vs us → sp vs H Q →
    codeAny (model P w) A (.call (.ref f) args) (fun r s' => match r with | .ok (.ret u) => MadeY P w k outer H s Q u s' | _ => False) s
theorem geny_of {P : Program} {w : World} {K : PySem.W.Frag} {mg : Str → Option Value} {base : Heap} {k : Nat} {f : Addr} {name qual : Str} {params : Arguments} {body : List Stmt} {scope : Scope} {dV kV doc pm cdv ct oc : Value} {an od : Option Addr}
    {osl : Array (Option Value)} {N ps : List Str} {sp : SpY} (lk : K.lookup f = some ⟨oc, od, .func (PySem.W.fnOf name qual params body scope dV kV doc pm an cdv ct), osl⟩) (hcd : PySem.W.codeIn K cdv qual = true) (G : GScope N ps scope) (len : ∀ vs H Q, sp vs H Q → vs.length = ps.length)
    (hbody : ∀ (A : Around) (outer : List Env) (s : Shared) (H : Hp) (vs : List V) (Q : List V → Hp → Prop) (pn : List (Addr × Obj)), Room k (A.deeper (envOfC qual scope s.heap.objs.size f cdv)) → sp vs H Q →
      ∃ t, Goes (gcxOf P w K mg base N qual scope f cdv A outer s H noE pn) (execs body (gcxOf P w K mg base N qual scope f cdv A outer s H noE pn).env) t ∧ t { nx := fun ys _ H' => Q ys H', rt := fun ys v H' => v = .non ∧ Q ys H' } [] (start N vs) H) :
    GenY P w K mg base (k + 1) f (PySem.W.fnOf name qual params body scope dV kV doc pm an cdv ct) ps sp := by
  refine ⟨len, fun A outer s H args us vs Q hr e0 hb r hsp => ?_⟩
  have hl := len _ _ _ hsp
  have inK : K.In s.heap := e0.mod.kin.keeps fun b o e => (e0.bs b o e).1
  have nolim : s.heap.NoLimit := e0.mod.nolimit.keeps fun b o e => (e0.bs b o e).1
  refine codeAny_call_generator hr.depth (inK _ _ lk) rfl G.co G.gen rfl (PySem.W.codeRec_of inK hcd) (hb _ _ _ _ ?_)
  refine wpAny_newFunctionEnv_cells G.kind (fun ⟨y, v⟩ hy => (G.par y (List.of_mem_zip hy).1).imp id fun q => ⟨q, PySem.W.cellsFrom_some _ _ _ (.inl q)⟩) fun env he s1 x => ?_
  subst he
  have nolim1 : s1.heap.NoLimit := nolim.keeps x.toInCall.keep
  refine ⟨nolim1, ?_⟩
  obtain ⟨h1, tk1, es1, hk1⟩ := x.done
  have osE : s1.os = s.os := by rw [es1]
  have genE : s1.gens = s.gens := by rw [es1]
  have ltE : s.heap.objs.size < s1.heap.objs.size := x.toInCall.ns.lt
  have main : ∀ (gob : Obj) (n1 n2 : Value) (tk2 : Nat), gob.cls = .type "generator" → gob.data = .fields #[.int s1.gens.size 0, n1, n2] → gob.slots = #[] → (∀ h : Heap, (h.push gob).get? h.objs.size = some gob) →
      MadeY P w (k + 1) outer H s Q (.ref s1.heap.objs.size) { s1 with gens := s1.gens.push (.fresh (.func body (envOfC qual scope s.heap.objs.size f cdv))), toks := tk2, heap := s1.heap.push gob } := by
    intro gob n1 n2 tk2 y1 y2 y3 y4
    have isG : ∀ h : Heap, h.get? s1.heap.objs.size = some gob → h.IsGen s1.heap.objs.size s1.gens.size := fun h e => ⟨gob, n1, n2, e, y1, y2, y3⟩
    refine ⟨s1.heap.objs.size, s1.gens.size, _, rfl, ⟨Nat.le_of_lt ltE, ?_⟩, isG _ (y4 _), Array.getElem?_push_size .., osE, ?_, nolim1.keeps fun b o e => Heap.get?_push_of_some _ e, fun b o e => Heap.get?_push_of_some _ (x.toInCall.keep b o e), ?_⟩
    · show s1.heap.objs.size < (s1.heap.push gob).objs.size
      rw [Heap.size_push]
      exact Nat.lt_succ_self _
    · exact AllBare.push (by rw [genE]; exact e0.bare) rfl
    intro Aw S C s2 hrw hfr hS hC hSC old hSo hCo hos hba
    have e2 : Env0 P w K mg base Aw outer s H := ⟨hfr, e0.mod, e0.bs, e0.bsz, e0.funs, e0.frf, e0.hok, e0.bare⟩
    obtain ⟨t, ht, hq⟩ := hbody Aw outer s H vs Q [(s1.heap.objs.size, gob)] (hrw.deeper _) hsp
    have I1 : Inv (gcxOf P w K mg base N qual scope f cdv Aw outer s H noE []) [] (start N vs) H s1 := inv_startG G hrw.hd e2 hl r x
    have old1 : ∀ b o, s1.heap.get? b = some o → s2.heap.get? b = some o := fun b o e => old b o (Heap.get?_push_of_some _ e)
    have I2 : Inv (gcxOf P w K mg base N qual scope f cdv Aw outer s H noE []) [] (start N vs) H s2 :=
      I1.call' (ch := []) (hos.trans osE.symm) (Un.kept old1) (I1.hok.kept old1) hba fun b z => nomatch z
    have above : ∀ b, (s1.heap.push gob).objs.size ≤ b → s1.heap.objs.size < b := fun b hb => by
      rw [Heap.size_push] at hb
      exact hb
    have ltS := above S hS
    have ltC := above C hC
    obtain ⟨cS, eS⟩ := hSo
    obtain ⟨oC, hoC, eC⟩ := hCo
    have young : ∀ b, s1.heap.objs.size ≤ b → H b = none ∧ b ≠ s.heap.objs.size ∧ b ∉ frs outer ∧ s.heap.objs.size ≤ b ∧ ∀ y c, (cellsFrom (s.heap.objs.size + 1) scope.names []).lookup y = some c → c ≠ b := fun b hb =>
      ⟨I1.hok.fresh hb, Nat.ne_of_gt (Nat.lt_of_lt_of_le ltE hb), I1.nofs hb, Nat.le_trans (Nat.le_of_lt ltE) hb, fun y c e z => by
        obtain ⟨v, ox, hox, _⟩ := I1.cell y c e
        have lt := Heap.lt_size hox
        rw [z] at lt
        exact Nat.lt_irrefl _ (Nat.lt_of_lt_of_le lt hb)⟩
    have ap : ∀ b, s1.heap.objs.size < b → Apart (gcxOf P w K mg base N qual scope f cdv Aw outer s H noE [(s1.heap.objs.size, gob)]) b := fun b hb =>
      let ⟨_, z2, _, z4, z5⟩ := young b (Nat.le_of_lt hb)
      ⟨z4, z2, z5⟩
    have far : Far (gcxOf P w K mg base N qual scope f cdv Aw outer s H noE [(s1.heap.objs.size, gob)]) S C [] :=
      ⟨hSC, ap S ltS, ap C ltC, fun p hp => by rw [List.mem_singleton.mp hp]; exact Nat.ne_of_lt ltS, fun p hp => by rw [List.mem_singleton.mp hp]; exact Nat.ne_of_lt ltC⟩
    have R0 : Run (gcxOf P w K mg base N qual scope f cdv Aw outer s H noE [(s1.heap.objs.size, gob)]) S C [] [] (start N vs) H s2 := by
      refine ⟨oC, hoC, #[], cS, .nil, Inv.pinnedG I2 fun p hp => ?_⟩
      rcases List.mem_append.mp hp with zl | zr
      · rw [List.mem_singleton.mp zl]
        obtain ⟨z1, z2, z3, _⟩ := young s1.heap.objs.size (Nat.le_refl _)
        exact ⟨old _ _ (y4 _), z1, z2, z3, fun v q => by rw [y2] at q; cases q⟩
      · rcases List.mem_cons.mp zr with zh | zt
        · rw [zh]
          obtain ⟨z1, z2, z3, _⟩ := young S (Nat.le_of_lt ltS)
          exact ⟨eS, z1, z2, z3, fun v q => by cases q⟩
        · rw [List.mem_singleton.mp zt]
          obtain ⟨z1, z2, z3, _⟩ := young C (Nat.le_of_lt ltC)
          exact ⟨eC, z1, z2, z3, hoC.2⟩
    -- what a state of the run tells
    have told : ∀ {ip : List (Addr × Obj)} {ys : List V} {s' : Shared} {σ' : L2.St} {H' : Hp}, Run (gcxOf P w K mg base N qual scope f cdv Aw outer s H noE [(s1.heap.objs.size, gob)]) S C ip ys σ' H' s' →
        s'.os = s.os ∧ AllBare s'.gens ∧ s'.heap.NoLimit ∧ s'.heap.IsGen s1.heap.objs.size s1.gens.size ∧ Un (frs outer) [] H H' s.heap s'.heap ∧ HOk P w H' s'.heap ∧ ∃ acc c o, (H' S = none ∧ s'.heap.get? S = some (lstObj acc c)) ∧ Vals ys acc.toList ∧ (H' C = none ∧ LocO C o ∧ s'.heap.get? C = some o) := fun {ip ys s' σ' H'} ⟨o, ho, acc, c, ra, J⟩ => by
      have zS := J.pin (S, lstObj acc c) (List.mem_append_right _ List.mem_cons_self)
      have zC := J.pin (C, o) (List.mem_append_right _ (List.mem_cons_of_mem _ List.mem_cons_self))
      exact ⟨J.os, J.bare, J.nolimit, isG _ (J.pin (s1.heap.objs.size, gob) (List.mem_append_left _ List.mem_cons_self)).1, J.base, J.hok, acc, c, o, ⟨zS.2.1, zS.1⟩, ra, zC.2.1, ho, zC.1⟩
    refine seg_func (seg_imp (R := RP (gcxOf P w K mg base N qual scope f cdv Aw outer s H noE [(s1.heap.objs.size, gob)]) S C (fun ys v H' => v = .non ∧ Q ys H') fun _ _ => False)
      (Y := YP (gcxOf P w K mg base N qual scope f cdv Aw outer s H noE [(s1.heap.objs.size, gob)]) S C) (fun n s₀ r s3 hR => ?_) (fun n s₀ v s3 kap kap' hkk hY => ?_) sizeLine ?_)
    · cases r with
      | error e => exact hR.elim
      | ok fl =>
        cases fl with
        | next => exact hR.elim
        | brk => exact hR.elim
        | cont => exact hR.elim
        | ret u =>
          obtain ⟨ys, v, ip, σz, H', hn, hI, rv, ev, hQ⟩ := hR
          subst ev
          cases (show u = Value.none from rv)
          obtain ⟨t1, t2, _, _, t5, t6, acc, c, o, t7, t8, t9⟩ := told hI
          exact .inl ⟨.inl rfl, H', ys, acc, c, o, t1, t2, t5, t6, t7, ⟨t8, by omega⟩, t9, hQ⟩
    · obtain ⟨ys, xx, ip, σ', H', hn, _, hI, h3⟩ := hY
      obtain ⟨t1, t2, t3, t4, _, _, acc, c, o, t7, t8, t9⟩ := told hI
      have many : acc.size = ys.length := by
        have z1 := t8.length
        rw [Array.length_toList] at z1
        exact z1.symm
      exact ⟨t1, t2, t3, t4, ⟨acc, c, t7.2, by rw [many]; exact hn⟩, ⟨o, t9.2⟩, fun s' z => hkk _ _ (h3 s' z)⟩
    · refine ht Aw S C [] _ sizeLine [] s2 _ [] _ _ id id s2 (start N vs) H _ ⟨far, over_func, rfl, rfl, rfl⟩ (Nat.add_zero _) ⟨fun n ys s₀ s' fl hn hs => ?_, fun n s₀ e s' hx => ?_⟩ R0 hq
      · cases fl with
        | next =>
          obtain ⟨σ', H', hI, hQ⟩ := hs
          exact seg_end (.ok (.ret .none)) ⟨ys, .non, _, σ', H', hn, hI, rfl, rfl, hQ⟩
        | ret u =>
          obtain ⟨v, σz, H', hI, rv, ev, hQ⟩ := hs
          exact seg_end (.ok (.ret u)) ⟨ys, v, _, σz, H', hn, hI, rv, ev, hQ⟩
        | brk => exact hs.elim fun _ q => q.elim fun _ q => q.2.elim
        | cont => exact hs.elim fun _ q => q.elim fun _ q => q.2.elim
      · refine seg_wrap ?_
        rw [over_func]
        refine wpAny_mono (show wpAny (model P w) (Aw.deeper (envOfC qual scope s.heap.objs.size f cdv)) (leaving (envOfC qual scope s.heap.objs.size f cdv) e) (fun _ s3 => CX P w outer H s noE e s3 ∧ ∀ p ∈ [(s1.heap.objs.size, gob)], s3.heap.get? p.1 = some p.2) (fun _ _ => False) s' from hx) (fun _ s3 q => ?_) fun _ s3 q => q.elim
        obtain ⟨⟨_, _, _, _, _, _, _, _, _, _, _, _, z⟩, _⟩ := q
        exact z.elim
  exact main _ _ _ _ rfl rfl rfl fun _ => Heap.get?_push_size _ rfl
section
variable {X : Cx} {k : Nat}
structure PGenY (X : Cx) (k : Nat) (e : Expr) (tg : TGen) : Prop where
  run : ∀ (pins : List (Addr × Obj)) (s : Shared) (σ : L2.St) (H : Hp) (cont : List V → Hp → Prop), Inv X pins σ H s → tg σ H cont → wpAny (model X.prog X.w) X.A (eval e X.env) (fun u s' => ∃ H1 sc, Inv X pins σ H1 sc ∧ MadeY X.prog X.w k X.stack H1 sc cont u s') X.xe s
def tCallY (sp : SpY) (t : TA) : TGen := fun σ H cont => t σ H fun vs H1 => sp vs H1 cont
theorem pgy_call {f : Addr} {fd : FuncData} {ps : List Str} {sp : SpY} {x : Str} {p pos' : Pos} {e : Expr} {es : List Expr} {t : TA} (F : GenY X.prog X.w X.K X.mg X.base k f fd ps sp) (hr : Room k X.A) (hg : Gl X x) (hm : X.mg x = some (.ref f)) (hk : PySem.W.keepIn X.K (.ref f) = true) (hb : Binds X.K fd ps [])
    (ha : PA X (e :: es) t) (he : starEach (e :: es) X.env = (false, eval e X.env) :: starEach es X.env := by rfl) (hpl : (backTo pos' (starEach es X.env)).any (·.1) = false := by rfl) (hdb : (x == ("__debug__" : Str)) = false := by decide) :
    PGenY X k (.Call (.Name x p) (e :: es) [] pos') (tCallY sp t) := by
  refine ⟨fun pins s σ H cont I h => wpAny_Call_Name_kw (ld_glob I hg hm ?_ hdb)⟩
  refine PySem.W.callWith_K (h₀ := X.base) I.ok.mod.kin hk (thn (ha.run pos' pins s σ H _ I h) fun us z1 ⟨vs, H1, I1, r, q⟩ => ⟨I1.kIn, ?_⟩) he hpl
  have hl : us.length = ps.length := by
    rw [← r.length]
    exact F.len _ _ _ q
  have bt := hb z1 us I1.kIn (by rw [List.append_nil]; exact hl)
  rw [List.append_nil] at bt
  refine wpAny_call (codeAny_mono (F.run X.A X.stack z1 H1 ⟨us, []⟩ us vs cont hr I1.env0 bt r q) fun z s2 hz => ?_)
  cases z with
  | error e => exact hz.elim
  | ok fl =>
    cases fl with
    | ret u => exact ⟨H1, z1, I1, hz⟩
    | next => exact hz.elim
    | brk => exact hz.elim
    | cont => exact hz.elim
theorem lcY_core {pins : List (Addr × Obj)} {s : Shared} {σ : L2.St} {H : Hp} {Q : VK} {e : Expr} {tg : TGen} {x : Str} {p1 p2 pos pos' : Pos} {sc : Scope} {own : List (Str × Nat)} {use : Option (Value → Sem Unit)} {Qf : Value → Shared → Prop} (hgen : PGenY X k e tg) (hr : Room (k + 1) X.A) (hN : X.N.Nodup) (ok : BlkOk X.N X.env.scope sc own) (hx : sc.names.lookup x = some .local)
    (hdb : (x == ("__debug__" : Str)) = false) (hs : ∀ y, foldedSetIterable e X.env y = pure y) (I : Inv X pins σ H s) (h : tListG tg σ H Q)
    (hRR : ∀ D C z m G, Inv X pins σ G z → Q (.ref D) G → z.heap.Ns C m → FpOk X pins G C → compPost (model X.prog X.w) X.A X.xe use Qf (.ref D) C (.ok .next) z) :
    wpAny (model X.prog X.w) X.A (comprehension (.ListComp (.Name x p1) [⟨.Name x p2, e, [], 0⟩] sc pos) sc X.env pos' (newList []) false (eval e X.env) use) Qf X.xe s := by
  have frees : ∀ y ∈ sc.names, y.2 = .free → ∃ c, X.env.cells.lookup y.1 = some c := fun y hy e => I.ok.has _ ((ok.free y hy e).elim (fun a => .inl a) fun a => .inr a)
  refine wpAny_comprehension_free (use := use) rfl hs (closure_ok frees) ok.kind (fun y hy e => (ok.uniq y hy).trans (congrArg some e)) (thn (hgen.run pins s σ H _ I h) fun u s1 ⟨H1, sc0, I1, a, g, cd, eu, ⟨ge1, ge2⟩, hg, hgs, hos, hb, hl, old, wake⟩ => ?_)
  subst eu
  refine wpAny_pyIter_gen hg (wpAny_newObj_type (newEnv_comp ?_) (by show 0 ≤ sizeLine; decide))
  obtain ⟨D, hD⟩ : ∃ D, D = s1.heap.objs.size := ⟨_, rfl⟩
  rw [← hD]
  have I2 : Inv X pins σ H1 s1 := I1.call' (ch := []) hos (Un.kept old) (I1.hok.kept old) hb fun b z => nomatch z
  obtain ⟨s3, hs3⟩ : ∃ s3 : Shared, s3 = { s1 with heap := s1.heap.push { cls := .type "list", data := .seq ([] : List Value).toArray } } := ⟨_, rfl⟩
  have p3 : s3.heap = s1.heap.push { cls := .type "list", data := .seq ([] : List Value).toArray } := by rw [hs3]
  have keep3 : ∀ b o, s1.heap.get? b = some o → s3.heap.get? b = some o := fun b o e => by
    rw [p3]
    exact Heap.get?_push_of_some (h := s1.heap) _ e
  have at3 : s3.heap.get? D = some (lstObj #[] 0) := by
    rw [p3, hD]
    exact Heap.get?_push_size s1.heap rfl
  have I3 : Inv X pins σ (upd H1 D (.lst [])) s3 := by
    rw [hs3]
    refine I2.laid (t' := s1.toks) (fun b o e => Heap.get?_push_of_some _ e) (Nat.le_of_eq hD.symm) ⟨Nat.zero_le _, [], 0, .nil, ?_⟩
    rw [hD]
    exact Heap.get?_push_size s1.heap rfl
  have I4 := block_start (fp := []) I3 ok hN fun b hb => nomatch hb
  have goal : codeAny (model X.prog X.w) X.A (.compStart (.ListComp (.Name x p1) [⟨.Name x p2, e, [], 0⟩] sc pos) 0 (.ref a) (.ref D) (compEnvC sc (cellsFrom (s3.heap.objs.size + 1) sc.names (cloFrom X.env.cells sc.names [])) s3.heap.objs.size X.env))
      (compPost (model X.prog X.w) X.A X.xe use Qf (.ref D) s3.heap.objs.size) { s3 with heap := pushCells (s3.heap.push { cls := .type "dict", data := .dict #[] }) sc.names } := by
    have hkx : (compEnvC sc (cellsFrom (s3.heap.objs.size + 1) sc.names (cloFrom X.env.cells sc.names [])) s3.heap.objs.size X.env).kindOf x = some .local := lookup_relabel_local hx
    have hkf : (compEnvC sc (cellsFrom (s3.heap.objs.size + 1) sc.names (cloFrom X.env.cells sc.names [])) s3.heap.objs.size X.env).scope.kind = .function := ok.kind
    have hlo : (compEnvC sc (cellsFrom (s3.heap.objs.size + 1) sc.names (cloFrom X.env.cells sc.names [])) s3.heap.objs.size X.env).locals = s3.heap.objs.size := rfl
    obtain ⟨ce, hce⟩ : ∃ ce, ce = compEnvC sc (cellsFrom (s3.heap.objs.size + 1) sc.names (cloFrom X.env.cells sc.names [])) s3.heap.objs.size X.env := ⟨_, rfl⟩
    rw [← hce] at I4 hkx hkf hlo ⊢
    obtain ⟨C, hC⟩ : ∃ C, C = s3.heap.objs.size := ⟨_, rfl⟩
    rw [← hC] at hlo ⊢
    obtain ⟨m4, ns4, _⟩ := I4.loc
    have ns4 : (pushCells (s3.heap.push { cls := .type "dict", data := .dict #[] }) sc.names).Ns ce.locals m4 := ns4
    rw [hlo] at ns4
    have szD : s3.heap.objs.size = D + 1 := by rw [p3, Heap.size_push, hD]
    have nDC : D ≠ C := by
      rw [hC, szD]
      exact Nat.ne_of_lt (Nat.lt_succ_self D)
    have keep4 : ∀ b o, s3.heap.get? b = some o → (pushCells (s3.heap.push { cls := .type "dict", data := .dict #[] }) sc.names).get? b = some o := fun b o e => pushCells_keeps _ _ _ _ (Heap.get?_push_of_some _ e)
    obtain ⟨s4, hs4⟩ : ∃ s4 : Shared, s4 = { s3 with heap := pushCells (s3.heap.push { cls := .type "dict", data := .dict #[] }) sc.names } := ⟨_, rfl⟩
    have h4 : s4.heap = pushCells (s3.heap.push { cls := .type "dict", data := .dict #[] }) sc.names := by rw [hs4]
    have g4 : s4.gens = s1.gens := by rw [hs4, hs3]
    have o4 : s4.os = s1.os := by rw [hs4, hs3]
    rw [← hs4]
    rw [← h4] at ns4 keep4
    have old4 : ∀ b o, s1.heap.get? b = some o → s4.heap.get? b = some o := fun b o e => keep4 b o (keep3 b o e)
    have hg4 : s4.heap.IsGen a g := hg.keeps old4
    have locOf : ∀ {h : Heap} {m : Str → Option Value}, h.Ns C m → ∃ o, LocO C o ∧ h.get? C = some o := fun {h m} ⟨o, es, ep, e, ed, r⟩ => ⟨o, ⟨⟨m, fun h' e' => ⟨o, es, ep, e', ed, r⟩⟩, fun v q => by rw [ed] at q; cases q⟩, e⟩
    have naD : a ≠ D := Nat.ne_of_lt (by rw [hD]; exact ge2)
    have naC : a ≠ C := Nat.ne_of_lt (by rw [hC, szD, hD]; exact Nat.lt_succ_of_lt ge2)
    have lim0 : cStatics < s1.heap.objs.size := let ⟨_, hn, _⟩ := hl; hn.lt
    have nkD : cStatics ≠ D := by
      rw [hD]
      exact Nat.ne_of_lt lim0
    have nkC : cStatics ≠ C := by
      rw [hC, szD, hD]
      exact Nat.ne_of_lt (Nat.lt_succ_of_lt lim0)
    have loop : codeAny (model X.prog X.w) X.A (.compLoop (.ListComp (.Name x p1) [⟨.Name x p2, e, [], 0⟩] sc pos) 0 (.ref a) (.ref D) ce) (compPost (model X.prog X.w) X.A X.xe use Qf (.ref D) C) s4 := by
      refine compLoop_any (fun n z => ∃ gs, z.gens[g]? = some gs ∧ z.heap.IsGen a g ∧ z.heap.NoLimit ∧ gs.Goes (model X.prog X.w) X.A.in1 (EndY X.prog X.w X.stack H1 sc0 D C a g fun out H2 => ∀ p, H2 p = none → Q (.ref p) (upd H2 p (.lst out))) (ItemY sc0 D C a g) n (.send .none) (z.setGen g .running)) ?_ sizeLine
        ⟨.fresh cd, by rw [g4]; exact hgs, hg4, hl.keeps old4, rfl, ?_⟩
      · rintro n s5 ⟨gs, hgs5, hg5, hl5, hgo⟩
        have hgl : g < s5.gens.size := (Array.getElem?_eq_some_iff.mp hgs5).1
        refine wpAny_gsz (n := g + 1) hgl (next_genG (F := fun _ _ s₁ => StopY X.prog X.w X.stack H1 sc0 D C (fun out H2 => ∀ p, H2 p = none → Q (.ref p) (upd H2 p (.lst out))) s₁) (Er := fun _ _ => False) hr.hd hl5 (by have := hr.dp; omega) hg5 hgs5 hgo (fun v s6 gs' hbare hv hsz => ?_) (fun s6 hp h' hk _ => ?_) fun e s6 he => he.elim)
        · obtain ⟨t1, t2, t3, t4, ⟨acc, c, t5, t6⟩, ⟨oC, tC1, tC2⟩, kap⟩ := hv
          obtain ⟨⟨m6, hm6⟩, _⟩ := id tC1
          have ns6 : (s6.setGen g gs').heap.Ns ce.locals m6 := by
            rw [hlo]
            exact hm6 _ tC2
          refine wpAny_pure (wpAny_assign_Name (wpAny_storeName_local hkx ns6 (fun h7 ns7 sb7 => ?_) (by rw [hkf]; rfl)))
          refine wpAny_pure ?_
          refine ite_tt (wpAny_Name (wpAny_loadName_local hkf hkx ns7 (if_pos rfl) ?_) hdb)
          have pl7 : h7.PlainList D acc := ⟨c, (sb7.2 D (by rw [hlo]; exact nDC)).trans t5⟩
          refine wpAny_list_append_plain (s := { s6.setGen g gs' with heap := h7, toks := s6.toks + 1 }) pl7 (fun h8 pl8 sb8 => ?_) (by omega)
          obtain ⟨c8, e8⟩ := pl8
          have ns8 : h8.Ns C (fun y => if y = x then some v else m6 y) := (hlo ▸ ns7).sameBut sb8 nDC.symm
          have old8 : ∀ b o, b ≠ D → b ≠ C → s6.heap.get? b = some o → h8.get? b = some o := fun b o n1 n2 e => (sb8.2 b n1).trans ((sb7.2 b (by rw [hlo]; exact n2)).trans e)
          have hsz6 : g < s6.gens.size := by
            have q : (s6.setGen g gs').gens.size = s6.gens.size := setGen_size _ _ _
            have hsz' : g + 1 ≤ (s6.setGen g gs').gens.size := hsz
            omega
          have nap : Nap D C v s6 (({ s6.setGen g gs' with heap := h8, toks := s6.toks + 1 } : Shared).setGen g .running) :=
            ⟨rfl, allBare_setGen (s := { s6.setGen g gs' with heap := h8, toks := s6.toks + 1 }) (allBare_setGen t2 hbare) rfl, old8, fun acc' c' e' => by
              rw [t5] at e'
              cases e'
              exact ⟨c8, e8⟩, locOf ns8⟩
          have kp := kap _ nap
          match n, kp with
          | 0, kp => exact kp.elim
          | m + 1, kp =>
            refine ⟨m, Nat.lt_succ_self m, gs', setGen_at hsz6, ?_, ?_, kp⟩
            · obtain ⟨o, nm, qn, ho, r⟩ := t4
              exact ⟨o, nm, qn, old8 a o naD naC ho, r⟩
            · obtain ⟨mc, hns, hnn⟩ := t3
              exact ⟨mc, hns.at' fun o e => old8 _ o nkD nkC e, hnn⟩
        · obtain ⟨H', ys, acc, c, oC, t1, t2, t3, t4, ⟨t5, t6⟩, ⟨t7, t8⟩, ⟨t9, t10, t11⟩, t12⟩ := hp
          obtain ⟨⟨mC, hmC⟩, _⟩ := t10
          have le : sc0.heap.objs.size ≤ D := by
            rw [hD]
            exact Nat.le_trans ge1 (Nat.le_of_lt ge2)
          have J : Inv X pins σ (upd H' D (.lst ys)) { s6.setGen g .finished with heap := h' } :=
            I1.drained le t8 (hk _ _ t6) t7 ExOk.nil t1 (allBare_setGen t2 rfl) (t3.trans (Un.kept hk)) (t4.kept hk) t5
          exact hRR D C _ mC _ J (t12 D t5) (hmC _ (hk _ _ t11)) (I3.fpOk (b := C) (Nat.le_of_eq hC.symm) (H' := upd H' D (.lst ys)) (by rw [upd_ne nDC.symm]; exact t9))
      · refine wake X.A.in1 D C (s4.setGen g .running) ⟨hr.hd, ?_, ?_⟩ I1.ok.frames (Nat.le_of_eq hD.symm) (by rw [hC, szD, hD]; exact Nat.le_succ _) nDC old4 ⟨0, keep4 _ _ at3⟩ (locOf ns4) (o4.trans hos) (allBare_setGen (by rw [g4]; exact hb) rfl)
        · have := hr.dp
          show X.A.depth + 3 * k + 5 < _
          omega
        · have := hr.un
          show X.A.units + 1 + 16 * k + 200 < _
          omega
    exact codeAny_compStart_list loop (wpAny_pyIter_gen hg4 loop)
  exact hs3 ▸ goal
theorem pe_lcY {e : Expr} {tg : TGen} {x : Str} {p1 p2 pos : Pos} {sc : Scope} {own : List (Str × Nat)} (hgen : PGenY X k e tg) (hr : Room (k + 1) X.A) (hN : X.N.Nodup) (ok : BlkOk X.N X.env.scope sc own) (hx : sc.names.lookup x = some .local)
    (hdb : (x == ("__debug__" : Str)) = false := by decide) (hs : ∀ y, foldedSetIterable e X.env y = pure y := by intro _; rfl) : PE X (.ListComp (.Name x p1) [⟨.Name x p2, e, [], 0⟩] sc pos) (tListG tg) := by
  refine ⟨fun pins s σ H Q I h => ?_⟩
  rw [eval_ListComp]
  refine lcY_core hgen hr hN ok hx hdb hs I h fun D C s' m H' I' q hn f => ⟨m, hn, fun h'' sb => ?_⟩
  obtain ⟨a0, a1, a2, a3, a4, a5⟩ := f
  exact ⟨.ref D, H', I'.turned (t' := s'.toks) (fun b o hb e => (sb.2 b hb).trans e) a0 a1 a3 a4 a5, rfl, q⟩
/-- name = [x for x in f(..)] on one line, the name a local -/
theorem ps_setLcY {i : Nat} {y : Str} {py : Pos} {e : Expr} {tg : TGen} {x : Str} {p1 p2 pos spos : Pos} {sc : Scope} {own : List (Str × Nat)} (hgen : PGenY X k e tg) (hr : Room (k + 1) X.A) (hN : X.N.Nodup) (hy : X.N[i]? = some y) (hyl : X.env.scope.names.lookup y = some .local)
    (hsw : swapsWith (.ListComp (.Name x p1) [⟨.Name x p2, e, [], 0⟩] sc pos) (some (.Name y py)) spos.line X.env = pure true) (ok : BlkOk X.N X.env.scope sc own) (hx : sc.names.lookup x = some .local)
    (hdb : (x == ("__debug__" : Str)) = false := by decide) (hs : ∀ y, foldedSetIterable e X.env y = pure y := by intro _; rfl) : PS X (.Assign [.Name y py] (.ListComp (.Name x p1) [⟨.Name x p2, e, [], 0⟩] sc pos) spos) (tAsg (tListG tg) (gName i)) := by
  refine ⟨fun pins s σ H D I h => ?_⟩
  rw [exec_Assign_Name_used _ _ _ _ hsw]; refine wpAny_bind (wpAny_standAt (wpAny_bind ?_))
  show wpAny _ X.A (do let _ ← comprehension (.ListComp (.Name x p1) [⟨.Name x p2, e, [], 0⟩] sc pos) sc X.env (firstIterPos [⟨.Name x p2, e, [], 0⟩] pos) (newList []) false (eval e X.env) (some (assign (.Name y py) X.env))) _ _ s
  have h : tListG tg σ H (fun x H1 => gName i x σ H1 D.nx) := h
  refine wpAny_bind (thn (lcY_core (Qf := fun _ s' => SP X pins D .next s') hgen hr hN ok hx hdb hs I h fun D' C s' m H' I' q hn f => ?_) fun _ s' hq => wpAny_pure (wpAny_pure hq))
  show wpAny _ _ (assign (.Name y py) X.env (.ref D')) _ _ _
  refine wpAny_assign_Name (store_ok2 (v := V.ref D') I' hN hy (.inl hyl) rfl (fun s2 I2 ⟨a, sb, ha⟩ => ?_) (.inr hyl))
  obtain ⟨a0, a1, a2, a3, a4, a5⟩ := f
  have haC : C ≠ a := by
    rcases ha with z | z
    · rw [z]; exact a1
    · exact fun e => a4 y a z e.symm
  refine ⟨m, hn.sameBut sb haC, fun h3 sb3 => ⟨_, H', I2.turned (t' := s2.toks) (fun b o hb e => (sb3.2 b hb).trans e) a0 a1 a3 a4 a5, q⟩⟩
end
end Cc

/-! Lambdas as values (one parameter with a default, or none): kept in lists, called later by a def that catches what they raise. -/
namespace Cc
open PySem PySem.Spec PyProof.Rows L2
open LamX PySem.W
/-- a lambda's data, its defaults at dv -/
abbrev laFn (q : Str) (params : Arguments) (body : Expr) (scope : Scope) (cl : List (Str × Addr)) (pm dv cdv ct : Value) : FuncData := { kla_fn "<lambda>" q params body scope cl pm cdv ct with defaults := dv }
abbrev laObj (q : Str) (params : Arguments) (body : Expr) (scope : Scope) (cl : List (Str × Addr)) (pm dv : Value) (c' : Addr) (ctv : Value) : Obj := { cls := .type "function", data := .func (laFn q params body scope cl pm dv (.ref c') ctv) }
section
variable {M : Model} {A : Around} {E : Value → Shared → Prop} {s : Shared} {qual : Str} {params : Arguments} {body : Expr} {scope : Scope} {env : Env} {c P : Addr} {ps : Array Value} {pos : Pos} {n : Nat} {mg : Str → Option Value} {clos : List (Str × Addr)} {Q : Value → Shared → Prop} {dv : Value}
theorem la_new (hcl : closureFor scope env = pure clos) (hge : env.globals = mainGlobals) (hg : s.heap.Ns mainGlobals mg) (hcode : env.code = .ref c) (C : CodeHd s.heap c P) (hP : s.heap.get? P = some { cls := .none, data := .fields ps }) (ht : TriplesOk ps.toList)
    (hno : codeAmong pos ps.toList = none) (hgP : mainGlobals ≠ P) (hb : s.heap.BuiltinsAt mg P)
    (h : ∀ c' ctv h' tk, Heap.ExtBut P s.heap h' → s.heap.objs.size ≤ c' → c' < h'.objs.size → h'.CodeRec (.ref c') qual → h'.get? P = some { cls := .none, data := .fields (ps ++ #[rawInt pos.line, rawInt pos.col, .ref c']) } →
      Q (.ref h'.objs.size) { s with heap := h'.push (laObj qual params body scope clos ((mg "__name__").getD .none) dv c' ctv), toks := tk }) :
    wpAny M A (makeTail "<lambda>" qual params (.expr body) scope env dv .none none pos n) Q E s := by
  obtain ⟨bm, ob, b1, b2, _, b3, b4, b5, b6, b7⟩ := hb
  unfold makeTail
  rw [hcl, hge]
  refine wpAny_bind (wpAny_pure ?_); cases clos with
  | nil =>
    simp only [List.isEmpty_nil, if_true]; refine wpAny_bind (wpAny_pure (wpAny_bind (wpAny_functionCodeX hcode (C.code hP ht) (C.tab hP) hno fun c' h' tk hx hsz hlt _ hrec htb _ => ?_)))
    have g' := hg.extBut hx hgP
    exact wpAny_bind (wpAny_builtinsFor g' b1 b2 (hx _ _ b3 b4) b5 b6 b7 (wpAny_bind (wpAny_nsGet g' (wpAny_bind (wpAny_pure (wpAny_newObj_type (h c' .none h' tk hx hsz hlt hrec htb.2) (by size_fits)))))))
  | cons q r =>
    simp only [List.isEmpty_cons, Bool.false_eq_true, if_false]; refine wpAny_bind (wpAny_newTextTuple (wpAny_bind (wpAny_functionCodeX hcode ((C.keeps fun b o e => Heap.get?_push_of_some _ e).code (Heap.get?_push_of_some _ hP) ht) ((C.keeps fun b o e => Heap.get?_push_of_some _ e).tab (Heap.get?_push_of_some _ hP)) hno fun c' h' tk hx hsz hlt _ hrec htb _ => ?_)))
    have g' := (hg.push _).extBut hx hgP
    have hx2 : Heap.ExtBut P s.heap h' := fun b o nb e => hx b o nb (Heap.get?_push_of_some _ e)
    have hsz2 : s.heap.objs.size ≤ c' := Nat.le_trans (by rw [Heap.size_push]; exact Nat.le_succ _) hsz
    exact wpAny_bind (wpAny_builtinsFor g' b1 b2 (hx2 _ _ b3 b4) b5 b6 b7 (wpAny_bind (wpAny_nsGet g' (wpAny_bind (wpAny_pure (wpAny_newObj_type (h c' _ h' tk hx2 hsz2 hlt hrec htb.2) (by size_fits)))))))
theorem la_hit {c' : Addr} (hcl : closureFor scope env = pure clos) (hge : env.globals = mainGlobals) (hg : s.heap.Ns mainGlobals mg) (hcode : env.code = .ref c) (C : CodeHd s.heap c P) (hP : s.heap.get? P = some { cls := .none, data := .fields ps }) (ht : TriplesOk ps.toList)
    (hyes : codeAmong pos ps.toList = some (.ref c')) (hb : s.heap.BuiltinsAt mg P) (h : ∀ (ctv : Value) (h' : Heap) (tk : Tok), (∀ b o, s.heap.get? b = some o → h'.get? b = some o) → s.heap.objs.size ≤ h'.objs.size →
      Q (.ref h'.objs.size) { s with heap := h'.push (laObj qual params body scope clos ((mg "__name__").getD .none) dv c' ctv), toks := tk }) :
    wpAny M A (makeTail "<lambda>" qual params (.expr body) scope env dv .none none pos n) Q E s := by
  obtain ⟨bm, ob, b1, b2, _, b3, b4, b5, b6, b7⟩ := hb
  unfold makeTail
  rw [hcl, hge]
  refine wpAny_bind (wpAny_pure ?_); cases clos with
  | nil =>
    simp only [List.isEmpty_nil, if_true]; exact wpAny_bind (wpAny_pure (wpAny_bind (wpAny_functionCode_hit hcode (C.code hP ht) hyes (wpAny_bind (wpAny_builtinsFor hg b1 b2 b4 b5 b6 b7 (wpAny_bind (wpAny_nsGet hg (wpAny_bind (wpAny_pure (wpAny_newObj_type (h .none s.heap s.toks (fun _ _ e => e) (Nat.le_refl _)) (by size_fits)))))))))))
  | cons q r =>
    simp only [List.isEmpty_cons, Bool.false_eq_true, if_false]; refine wpAny_bind (wpAny_newTextTuple (wpAny_bind (wpAny_functionCode_hit hcode ((C.keeps fun b o e => Heap.get?_push_of_some _ e).code (Heap.get?_push_of_some _ hP) ht) hyes ?_)))
    have up : ∀ oT : Obj, s.heap.objs.size ≤ (s.heap.push oT).objs.size := fun oT => by rw [Heap.size_push]; exact Nat.le_succ _
    exact wpAny_bind (wpAny_builtinsFor (hg.push _) b1 b2 (Heap.get?_push_of_some _ b4) b5 b6 b7 (wpAny_bind (wpAny_nsGet (hg.push _) (wpAny_bind (wpAny_pure (wpAny_newObj_type (h _ _ s.toks (fun b o e => Heap.get?_push_of_some _ e) (up _)) (by size_fits)))))))
end
/-! ### the lambda as a value -/
def LamO (f : Addr) (q : Str) (params : Arguments) (body : Expr) (scope : Scope) (cl : List (Str × Addr)) (c' : Addr) (dv : Value) : HO := .ext fun h => ∃ pm ctv, h.get? f = some (laObj q params body scope cl pm dv c' ctv)
/-- a lambda at f, its defaults ds -/
def LamAt (H : Hp) (f : Addr) (q : Str) (params : Arguments) (body : Expr) (scope : Scope) (cl : List (Str × Addr)) (ds : List V) : Prop :=
  ∃ c' dv, H f = some (LamO f q params body scope cl c' dv) ∧ H c' = some (CodeO c' q) ∧ ((ds = [] ∧ dv = .none) ∨ ∃ T v, ds = [v] ∧ dv = .ref T ∧ H T = some (.tup [v]))
theorem lamO_ne {f : Addr} {q : Str} {params : Arguments} {body : Expr} {scope : Scope} {cl : List (Str × Addr)} {c' : Addr} {dv : Value} (ps : Array Value) : LamO f q params body scope cl c' dv ≠ .tbl ps := fun z => by
  unfold LamO at z
  cases z
theorem LamAt.ext {H H1 : Hp} {f : Addr} {q : Str} {params : Arguments} {body : Expr} {scope : Scope} {cl : List (Str × Addr)} {ds : List V} (h : LamAt H f q params body scope cl ds) (e : ExtN H H1) : LamAt H1 f q params body scope cl ds := by
  obtain ⟨c', dv, h1, h2, h3⟩ := h
  refine ⟨c', dv, e _ _ h1 lamO_ne, e _ _ h2 codeO_ne, h3.imp id fun ⟨T, v, z1, z2, z3⟩ => ⟨T, v, z1, z2, e _ _ z3 fun _ z => by cases z⟩⟩
def tLamV (T : List (Addr × Str)) (q : Str) (params : Arguments) (body : Expr) (scope : Scope) (cl : List (Str × Addr)) (ds : List V) : TE := fun σ H Q => Tabs T H ∧ ∀ f H1, H f = none → ExtN H H1 → Tabs T H1 → LamAt H1 f q params body scope cl ds → Q (.ref f) H1
section
variable {X : Cx} {pins : List (Addr × Obj)} {σ : L2.St} {H : Hp} {s : Shared} {T : List (Addr × Str)} {c P : Addr} {params : Arguments} {body : Expr} {scope : Scope} {pos : Pos}
/-- the made function is tracked -/
theorem lam_in {s' : Shared} {h' : Heap} {tk : Nat} {cl : List (Str × Addr)} {pm dv ctv : Value} {c' : Addr} {q : Str} (I : Inv X pins σ H { s' with heap := h', toks := tk }) :
    Inv X pins σ (upd H h'.objs.size (LamO h'.objs.size q params body scope cl c' dv)) { s' with heap := h'.push (laObj q params body scope cl pm dv c' ctv), toks := tk } :=
  I.laid (t' := tk) (fun b o e => Heap.get?_push_of_some _ e) (Nat.le_refl _) ⟨⟨_, _, Heap.get?_push_size _ rfl⟩, ⟨_, Heap.get?_push_size _ rfl⟩, fun h1 h2 ⟨pm, ctv, e⟩ st => ⟨pm, ctv, st _ e⟩⟩
theorem la_tail {dv : Value} {ds : List V} {E : Value → Shared → Prop} {Q : Value → Shared → Prop} (I : Inv X pins σ H s) (TB : TabB X.base X.mg c P) (hcode : X.env.code = .ref c) (hm : (P, X.env.qual ++ "<lambda>") ∈ T) (hu : ∀ p ∈ T, p.1 = P → p.2 = X.env.qual ++ "<lambda>") (hT : Tabs T H)
    (hfree : ∀ y ∈ scope.names, y.2 = .free → ∃ c, X.env.cells.lookup y.1 = some c) (hd : (ds = [] ∧ dv = .none) ∨ ∃ T v, ds = [v] ∧ dv = .ref T ∧ H T = some (.tup [v]))
    (h : ∀ (f : Addr) (H1 : Hp) (s' : Shared), H f = none → Inv X pins σ H1 s' → ExtN H H1 → Tabs T H1 → LamAt H1 f (X.env.qual ++ "<lambda>") params body scope (cloFrom X.env.cells scope.names []) ds → Q (.ref f) s') :
    wpAny (model X.prog X.w) X.A (makeTail "<lambda>" (X.env.qual ++ "<lambda>") params (.expr body) scope X.env dv .none none pos pos.line) Q E s := by
  obtain ⟨ps, hP, ht, ha⟩ := hT _ hm; have bP : s.heap.BuiltinsAt X.mg P := TB.bm.keeps I.bk
  have atP : s.heap.get? P = some { cls := .none, data := .fields ps } := I.hok P _ hP
  -- a fresh place told: all that is wanted
  have last : ∀ (f c' : Addr) (H1 : Hp) (s' : Shared), H f = none → H1 f = none → ExtN H H1 → Tabs T H1 → H1 c' = some (CodeO c' (X.env.qual ++ "<lambda>")) → Inv X pins σ (upd H1 f (LamO f (X.env.qual ++ "<lambda>") params body scope (cloFrom X.env.cells scope.names []) c' dv)) s' → Q (.ref f) s' := by
    intro f c' H1 s' nf nf1 eN T1 hc J
    have e1 : ∀ b o, H1 b = some o → upd H1 f (LamO f (X.env.qual ++ "<lambda>") params body scope (cloFrom X.env.cells scope.names []) c' dv) b = some o := fun b o e => by
      rw [upd_ne (ne_of_none e nf1)]
      exact e
    exact h f _ s' nf J (eN.trans (ExtN.of e1)) (T1.ext e1) ⟨c', dv, upd_same, e1 _ _ hc, hd.imp id fun ⟨t, v, z1, z2, z3⟩ => ⟨t, v, z1, z2, e1 _ _ (eN _ _ z3 fun _ z => by cases z)⟩⟩
  cases hck : codeAmong pos ps.toList with
  | none =>
    refine la_new (mg := X.mg) (c := c) (P := P) (ps := ps) (closure_ok hfree) I.ok.glob (I.mod.glob.keeps I.bk) hcode (TB.code.keeps I.bk) atP ht hck TB.gP bP fun c' ctv h' tk hx hge hlt hrec htb => ?_
    obtain ⟨c2, oc, vs, t, e2, hoc, hdat, hv⟩ := hrec
    cases e2
    have nC : H c' = none := I.hok.fresh hge; have J := inv_table (t' := tk) (more := #[rawInt pos.line, rawInt pos.col, .ref c']) (h' := h') I hP hx htb hge ⟨oc, vs, t, hoc, hdat, hv⟩
    have eN : ExtN H (upd (upd H P (.tbl (ps ++ #[rawInt pos.line, rawInt pos.col, .ref c']))) c' (CodeO c' (X.env.qual ++ "<lambda>"))) := fun b o e n => by
      have nP : b ≠ P := fun z => n ps (by rw [z, hP] at e; exact (Option.some.inj e).symm)
      rw [upd_ne (ne_of_none e nC), upd_ne nP]
      exact e
    have szf : s.heap.objs.size ≤ h'.objs.size := Nat.le_trans hge (Nat.le_of_lt hlt)
    have nf : H h'.objs.size = none := I.hok.fresh szf
    refine last h'.objs.size c' _ _ nf (J.hok.fresh (Nat.le_refl _)) eN (fun p hp => ?_) upd_same (lam_in J)
    by_cases hb : p.1 = P
    · rw [hu p hp hb, hb]
      have el : (ps ++ #[rawInt pos.line, rawInt pos.col, .ref c']).toList = ps.toList ++ [rawInt pos.line, rawInt pos.col, .ref c'] := by simp
      refine ⟨_, by rw [upd_ne (ne_of_none hP nC), upd_same], by rw [el]; exact PySem.TriplesOk_snoc _ _ _ _ ht, fun p' cv hcv => ?_⟩
      rw [el] at hcv; rcases among_app _ ht hcv with z | z
      · obtain ⟨c0, z1, z2⟩ := ha p' cv z
        exact ⟨c0, z1, eN _ _ z2 codeO_ne⟩
      · exact ⟨c', z, upd_same⟩
    · obtain ⟨ps2, a1, a2, a3⟩ := hT p hp
      refine ⟨ps2, by rw [upd_ne (ne_of_none a1 nC), upd_ne hb]; exact a1, a2, fun p' cv hcv => ?_⟩
      obtain ⟨c0, z1, z2⟩ := a3 p' cv hcv
      exact ⟨c0, z1, eN _ _ z2 codeO_ne⟩
  | some cv =>
    obtain ⟨c', e, hco⟩ := ha pos cv hck; subst e
    refine la_hit (mg := X.mg) (c := c) (P := P) (ps := ps) (closure_ok hfree) I.ok.glob (I.mod.glob.keeps I.bk) hcode (TB.code.keeps I.bk) atP ht hck bP fun ctv h' tk hx hsz => ?_
    have J : Inv X pins σ H { s with heap := h', toks := tk } := I.kept hx
    exact last h'.objs.size c' H _ (I.hok.fresh hsz) (J.hok.fresh (Nat.le_refl _)) (ExtN.refl H) hT hco (lam_in J)
theorem pe_lam0 (TB : TabB X.base X.mg c P) (hcode : X.env.code = .ref c) (hm : (P, X.env.qual ++ "<lambda>") ∈ T) (hu : ∀ p ∈ T, p.1 = P → p.2 = X.env.qual ++ "<lambda>") (hdef : defaultsOf params X.env = ([], [])) (hkw : params.kwonlyargs = [] := by rfl)
    (hfree : ∀ (ok : X.Ok), ∀ y ∈ scope.names, y.2 = .free → ∃ c, X.env.cells.lookup y.1 = some c) : PE X (.Lambda params body scope pos) (tLamV T (X.env.qual ++ "<lambda>") params body scope (cloFrom X.env.cells scope.names []) []) := by
  refine ⟨fun pins s σ H Q I h => kla_eval hdef ?_⟩
  rw [makeFunction_eq]
  simp only [List.zip_nil_right, List.filterMap_nil, List.isEmpty_nil, if_true, pure_bind]; exact la_tail I TB hcode hm hu h.1 (hfree I.ok) (.inl ⟨rfl, rfl⟩) fun f H1 s' nf J e1 e2 e3 => ⟨.ref f, H1, J, rfl, h.2 f H1 nf e1 e2 e3⟩
theorem pe_lam1 {e : Expr} {i : Int} (TB : TabB X.base X.mg c P) (hcode : X.env.code = .ref c) (hm : (P, X.env.qual ++ "<lambda>") ∈ T) (hu : ∀ p ∈ T, p.1 = P → p.2 = X.env.qual ++ "<lambda>") (hdef : defaultsOf params X.env = ([eval e X.env], [])) (he : PE X e (tC (.int i)))
    (hfree : ∀ (ok : X.Ok), ∀ y ∈ scope.names, y.2 = .free → ∃ c, X.env.cells.lookup y.1 = some c) : PE X (.Lambda params body scope pos) (tLamV T (X.env.qual ++ "<lambda>") params body scope (cloFrom X.env.cells scope.names []) [.int i]) := by
  refine ⟨fun pins s σ H Q I h => ?_⟩
  rw [arm_eval_Lambda, hdef]
  show wpAny _ _ (do let dv ← evalAll [eval e X.env]; let kdv ← holding dv (evalAllOpt []); makeFunction "<lambda>" (X.env.qual ++ "<lambda>") params (.expr body) scope X.env dv kdv [] pos pos.line) _ _ s
  refine wpAny_bind (wpAny_bind (thn (he.run pins s σ H (fun v H1 => v = .int i ∧ H1 = H) I ⟨rfl, rfl⟩) fun u s1 ⟨v, H1, I1, r1, e1, e2⟩ => ?_))
  subst e1 e2
  refine wpAny_bind (wpAny_holding (wpAny_pure (wpAny_pure (wpAny_bind (wpAny_holding (wpAny_pure ?_))))))
  rw [makeFunction_eq]
  simp only [List.zip_nil_right, List.filterMap_nil, List.isEmpty_nil, if_true, pure_bind, List.isEmpty_cons, Bool.false_eq_true, if_false]
  refine wpAny_bind (wpAny_newTextTuple ?_); have nT : H1 s1.heap.objs.size = none := I1.hok.fresh (Nat.le_refl _)
  have J : Inv X pins σ (upd H1 s1.heap.objs.size (.tup [.int i])) { s1 with heap := s1.heap.push { cls := .type "tuple", data := .seq [u].toArray } } :=
    I1.laid (t' := s1.toks) (fun b o e => Heap.get?_push_of_some _ e) (Nat.le_refl _) ⟨by show 1 ≤ sizeLine; decide, [u], .cons r1 .nil, ⟨_, Heap.get?_push_size _ rfl, rfl, _, rfl⟩⟩
  have e0 : ∀ b o, H1 b = some o → upd H1 s1.heap.objs.size (.tup [.int i]) b = some o := same_upd nT
  refine la_tail J TB hcode hm hu (h.1.ext e0) (hfree I.ok) (.inr ⟨s1.heap.objs.size, .int i, rfl, rfl, upd_same⟩) fun f H2 s' nf J2 g1 g2 g3 => ⟨.ref f, H2, J2, rfl, h.2 f H2 ?_ ((ExtN.of e0).trans g1) g2 g3⟩
  by_cases q : f = s1.heap.objs.size
  · rw [q]
    exact nT
  · rw [upd_ne q] at nf
    exact nf
end
end Cc

/-! A lambda called: its body runs among what it captured. -/
namespace Cc
open PySem PySem.Spec PyProof.Rows L2
open LamX
/-- its names: captured ones, globals, own parameters that are no names of the def around it -/
structure LamN (N : List Str) (sc scope : Scope) : Prop where
  kind : scope.kind = .function
  (co : scope.isCoroutine = false)
  (gen : scope.isGenerator = false)
  own : ∀ y ∈ scope.names, y.2 ≠ .cell ∧ (y.2 = .local → y.1 ∉ N)
  (free : ∀ y ∈ scope.names, y.2 = .free → sc.names.lookup y.1 = some .cell ∨ sc.names.lookup y.1 = some .free)
def lamNB (N : List Str) (sc scope : Scope) : Bool :=
  decide (scope.kind = .function) && !scope.isCoroutine && !scope.isGenerator && scope.names.all fun y => !decide (y.2 = .cell) && (!decide (y.2 = .local) || !N.contains y.1) && (!decide (y.2 = .free) || decide (sc.names.lookup y.1 = some .cell) || decide (sc.names.lookup y.1 = some .free))
theorem lamN_by {N : List Str} {sc scope : Scope} (h : lamNB N sc scope = true) : LamN N sc scope := by
  unfold lamNB at h
  simp only [Bool.and_eq_true, Bool.or_eq_true, Bool.not_eq_true', decide_eq_true_eq, decide_eq_false_iff_not, List.all_eq_true] at h; obtain ⟨⟨⟨h1, h2⟩, h3⟩, h4⟩ := h
  refine ⟨h1, h2, h3, fun y hy => ⟨(h4 y hy).1.1, fun e => ?_⟩, fun y hy e => ?_⟩
  · rcases (h4 y hy).1.2 with z | z
    · exact absurd e z
    · intro m
      rw [List.contains_iff_mem.mpr m] at z
      cases z
  · rcases (h4 y hy).2 with (z | z) | z
    · exact absurd e z
    · exact .inl z
    · exact .inr z
theorem LamN.has {X : Cx} {scope : Scope} (L : LamN X.N X.env.scope scope) (ok : X.Ok) : ∀ y ∈ scope.names, y.2 = .free → ∃ c, X.env.cells.lookup y.1 = some c := fun y hy e => ok.has _ (L.free y hy e)
section
variable {X : Cx} {pins : List (Addr × Obj)} {σ : L2.St} {H HZ : Hp}
variable {s s1 : Shared}
theorem la_start {A : Around} {outer : List Env} {E : XK} {scope : Scope} {f c' : Addr} {h₁ : Heap} {tk : Nat} {m : Str → Option Value} (I : Inv X pins σ H s) (L : LamN X.N X.env.scope scope) (e0 : Env0 X.prog X.w X.K X.mg X.base A outer s1 HZ) (hd : A.handled = none)
    (un : Un (frs X.stack) [] H HZ s.heap s1.heap) (hns : h₁.Ns s1.heap.objs.size m) (kp : ∀ b o, s1.heap.get? b = some o → h₁.get? b = some o) :
    Inv (lamCx X A outer s1 HZ E scope f c') ([] : List (Addr × Obj)) σ HZ { s1 with heap := h₁, toks := tk } := by
  have caught : ∀ {y c}, (cloFrom X.env.cells scope.names []).lookup y = some c → X.env.cells.lookup y = some c := fun {y c} e => by
    rcases cloFrom_mem (PySem.mem_of_lookup e) with hmm | ⟨h1, h2⟩
    · cases hmm
    · obtain ⟨c1, hc⟩ := L.has I.ok _ h1 rfl
      rw [h2, hc]
      rfl
  have seen : ∀ {y}, scope.names.lookup y = some .free → ∃ c, (cloFrom X.env.cells scope.names []).lookup y = some c := fun {y} hl => mem_lookup (cloFrom_has (cells := X.env.cells) (acc := []) (show (y, NameKind.free) ∈ scope.names from PySem.mem_of_lookup hl))
  have stays : ∀ {c : Addr} {v : Option Value}, H c = none → s.heap.IsCell c v → h₁.IsCell c v := fun {c v} n ⟨o, ho, hdat⟩ => by
    obtain ⟨sl, q⟩ := un.any ho n (fun z => nomatch z)
    exact ⟨_, kp _ _ q, hdat⟩
  have noX : ∀ b : Addr, b ∉ (lamCx X A outer s1 HZ E scope f c').ex := fun b z => nomatch (show b ∈ ([] : List Addr) from z)
  refine ⟨⟨e0.mod, L.kind, rfl, rfl, Nat.le_refl _, fun y z c e1 e2 => I.ok.inj y z c (caught e1) (caught e2), fun y hy => ?_, fun y c z _ => (nomatch (show false = true from z)), fun _ => hd, Around.frames_deeper e0.frames, .inr ⟨rfl, rfl⟩, fun b z => absurd z (noX b), e0.bs, e0.bsz, fun b _ _ => noX b,
      fun b z => absurd z (noX b), e0.funs, e0.frf⟩,
    rfl, e0.bare, Un.kept kp, ⟨_, hns, fun i y v e1 e2 e3 => ?_⟩, fun y c e => ?_, e0.hok.fresh (Nat.le_refl _), fun y c e => ?_, fun q hq => (nomatch (show q ∈ ([] : List (Addr × Obj)) from hq)), e0.hok.kept kp, I.len⟩
  · have hy : scope.names.lookup y = some .cell ∨ scope.names.lookup y = some .free := hy; rcases hy with hy | hy
    · exact absurd rfl (L.own _ (PySem.mem_of_lookup hy)).1
    · exact seen hy
  · have e3 : Vis scope y := e3
    rcases e3 with k | k | k
    · exact absurd (List.mem_of_getElem? e1) ((L.own _ (PySem.mem_of_lookup k)).2 rfl)
    · exact (L.own _ (PySem.mem_of_lookup k)).1 rfl |>.elim
    · obtain ⟨m0, hn, hl⟩ := I.loc
      have way := L.free _ (PySem.mem_of_lookup k) rfl
      obtain ⟨u, r, q⟩ := hl i y v e1 e2 (way.elim (fun k => .inr (.inl k)) fun k => .inr (.inr k))
      obtain ⟨c2, h2⟩ := seen k
      refine ⟨u, r, .inr ⟨.inr k, c2, h2, ?_⟩⟩; rcases q with ⟨k', _⟩ | ⟨_, c3, e', z⟩
      · have k' : X.env.scope.names.lookup y = some .local := k'; rcases way with k2 | k2
        · rw [k'] at k2
          cases k2
        · rw [k'] at k2
          cases k2
      · rw [caught h2] at e'
        cases e'
        exact stays (I.freeC y _ (caught h2)) z
  · obtain ⟨u, z⟩ := I.cell y c (caught e)
    exact ⟨u, stays (I.freeC y c (caught e)) z⟩
  · obtain ⟨v, o, ho, _⟩ := I.cell y c (caught e)
    exact un.free c o ho (I.freeC y c (caught e)) (fun z => nomatch z)
/-- how its arguments bind -/
def LamBind (params : Arguments) (body : Expr) (scope : Scope) (ds : List V) : Prop :=
  (ds = [] ∧ ∀ (q : Str) (cl : List (Str × Addr)) (pm cv ctv : Value), bindArgs (laFn q params body scope cl pm .none cv ctv) ⟨[], []⟩ = pure []) ∨
  (∃ x, scope.names.lookup x = some .local ∧ ∀ (q : Str) (cl : List (Str × Addr)) (pm cv ctv : Value) (T : Addr) (u : Value), ∃ k, bindArgs (laFn q params body scope cl pm (.ref T) cv ctv) ⟨[], []⟩ = seqItems? (.ref T) >>= k ∧ k (some #[u]) = pure [(x, u)])
/-- x(), x bound to the lambda, in a def called from where it was made -/
theorem la_act {CXg : CXT} {Eg : XK} {Ng : List Str} {qg : Str} {sg : Scope} {g f : Addr} {cdg : Value} {params : Arguments} {body : Expr} {scope : Scope} {ds : List V} {k i : Nat} {a : Str} {pn : List (Addr × Obj)} {xe : Value → Shared → Prop} {W : WX} {E : XK} {tb : TE} {p1 p2 : Pos}
    (I : Inv X pins σ H s) (L : LamN X.N X.env.scope scope) (hbind : LamBind params body scope ds) (hds : ds = [] → ∀ (q : Str) (cl : List (Str × Addr)) (pm cv ctv : Value), bindArgs (laFn q params body scope cl pm .none cv ctv) ⟨[], []⟩ = pure [])
    (tk : Takes ((cxOf CXg X.prog X.w X.K X.mg X.base Ng qg sg g cdg X.A X.stack s H Eg).tr pn xe) W) (hW : ∀ cls d σ' H', E cls d H' → W cls d σ' H') (hr : Room (k + 1) (X.A.deeper (envOfC qg sg s.heap.objs.size g cdg))) (hbody : ∀ (A : Around) (outer : List Env) (s : Shared) (H : Hp) (c' : Addr), Room k (A.deeper (lamEnv X scope s.heap.objs.size f c')) → PE (lamCx X A outer s H E scope f c') body tb)
    (hN : Ng[i]? = some a) (hv : Vis sg a) (hd : (a == ("__debug__" : Str)) = false := by decide) (hcd : (a == ("__classdict__" : Str)) = false := by decide) : PE ((cxOf CXg X.prog X.w X.K X.mg X.base Ng qg sg g cdg X.A X.stack s H Eg).tr pn xe) (.Call (.Name a p1) [] [] p2)
      (fun σZ HZ Q => σZ[i]? = some (some (.ref f)) ∧ LamAt HZ f (X.env.qual ++ "<lambda>") params body scope (cloFrom X.env.cells scope.names []) ds ∧ tb σ HZ Q) := by
  refine ⟨fun pinsZ sZ σZ HZ Q IZ ⟨hs, hlam, ht⟩ => ?_⟩
  refine wpAny_Call_Name_kw (thn ((pe_var (pos := p1) (i := i) hN hv hd hcd).run pinsZ sZ σZ HZ (fun v H1 => v = .ref f ∧ H1 = HZ) IZ ⟨.ref f, hs, rfl, rfl⟩) fun u z1 ⟨v, H1, I1, r1, ev, eH⟩ => ?_)
  subst ev
  subst eH
  cases (show u = Value.ref f from r1)
  obtain ⟨c', dv, hO, hC, hD⟩ := hlam
  obtain ⟨⟨pm, ctv, of1⟩, _, _⟩ := I1.hok f _ hO
  obtain ⟨⟨oc, vs, t, hoc, hdc, hvc⟩, _, _⟩ := I1.hok c' _ hC
  refine PySem.W.callWith_F0 ⟨_, _, _, _, of1⟩ ?_; have un : Un (frs X.stack) [] H H1 s.heap z1.heap := I1.base
  have bindsTo : ∀ {M : Model} {A' : Around} {Qb : List (Str × Value) → Shared → Prop} {Eb : Value → Shared → Prop}, (∀ binds : List (Str × Value), (∀ y ∈ binds, scope.names.lookup y.1 = some .local) → Qb binds z1) → wpAny M A' (bindArgs (laFn (X.env.qual ++ "<lambda>") params body scope (cloFrom X.env.cells scope.names []) pm dv (.ref c') ctv) ⟨[], []⟩) Qb Eb z1 := fun {M A' Qb Eb} hq => by
    rcases hD with ⟨e1, e2⟩ | ⟨T, v, e1, e2, e3⟩
    · subst e2
      rw [hds e1]
      exact wpAny_pure (hq [] fun y hy => nomatch hy)
    · subst e2
      rcases hbind with ⟨z, _⟩ | ⟨x, hx, hb⟩
      · rw [e1] at z
        cases z
      · obtain ⟨_, its, rits, o, ho, _, n, hdat⟩ := I1.hok T _ e3
        obtain ⟨u, eu, ru⟩ := rits.one
        obtain ⟨kk, k1, k2⟩ := hb (X.env.qual ++ "<lambda>") (cloFrom X.env.cells scope.names []) pm (.ref c') ctv T u
        rw [k1]
        refine wpAny_bind (wpAny_seqItems ho hdat ?_)
        rw [eu]
        show wpAny _ _ (kk (some #[u])) _ _ _
        rw [k2]
        exact wpAny_pure (hq _ fun y hy => by rw [List.mem_singleton.mp hy]; exact hx)
  have rc : codeAny (model X.prog X.w) (X.A.deeper (envOfC qg sg s.heap.objs.size g cdg)) (.call (.ref f) ⟨[], []⟩) (CR (L2.CX X.prog X.w) (envOfC qg sg s.heap.objs.size g cdg :: X.stack) X.prog X.w H1 z1 Q E) z1 := by
    refine PySem.W.kla_callFunE hr.depth of1 rfl L.co L.gen rfl ⟨c', oc, vs, t, rfl, hoc, hdc, hvc⟩ (bindsTo fun binds hbs => wpAny_newFunctionEnv (fun y hy => (L.own y hy).1) hbs (fun h₁ hns hsb => ⟨I1.nolimit.fresh _ hsb, ?_⟩) L.kind)
    show codeAny _ _ (.expr body (lamEnv X scope z1.heap.objs.size f c')) _ _
    have kp : ∀ b o, z1.heap.get? b = some o → h₁.get? b = some o := fun b o e => hsb.extBut b o (Nat.ne_of_lt (Heap.lt_size e)) (Heap.get?_push_of_some _ e)
    have J : Inv (lamCx X (X.A.deeper (envOfC qg sg s.heap.objs.size g cdg)) (envOfC qg sg s.heap.objs.size g cdg :: X.stack) z1 H1 E scope f c') [] σ H1 { z1 with heap := h₁, toks := z1.toks + binds.length } := la_start I L I1.env0 hr.hd un hns kp
    refine PySem.W.kla_codeExpr (wpAny_mono ((hbody _ _ z1 H1 c' (hr.deeper _)).run [] _ _ H1 Q J ht) (fun v s' q => ?_) fun e s' q => q)
    obtain ⟨x', H', J', rv, q⟩ := q
    exact ⟨x', H', J'.os, J'.bare, J'.base, J'.hok, rv, q⟩
  have ps : Passes (L2.CX X.prog X.w) ((cxOf CXg X.prog X.w X.K X.mg X.base Ng qg sg g cdg X.A X.stack s H Eg).tr pn xe) E := passes_call tk hW
  refine wpAny_call (codeAny_mono rc fun r s' q => ?_)
  cases r with
  | error e => exact ps pinsZ σZ H1 z1 e s' I1 q
  | ok fl =>
    cases fl with
    | ret u => exact I1.after q
    | next => exact q.elim
    | brk => exact q.elim
    | cont => exact q.elim
end
end Cc

/-! A comprehension whose element calls a def with a lambda: what stands around the comprehension is known within. -/
namespace Cc
open PySem PySem.Spec PyProof.Rows L2
open LamX
section
variable {X : Cx}
/-- a comprehension of one clause; its element is judged where the slots around are known -/
theorem pe_lcI {el ta ia : Expr} {fs : List Expr} {sc : Scope} {own : List (Str × Nat)} {ps : Pos} {wi : TI} {g : TG} {tt : TT} {te : L2.St → TE} (hc : X.calm = true) (hN : X.N.Nodup) (hi : PI X ta ia wi) (ok : BlkOk X.N X.env.scope sc own)
    (hg : ∀ (s : Shared) (H : Hp) (C : Addr) (cl : List (Str × Addr)) (fp : List Addr), PG (X.blk s H sc (compEnvC sc cl C X.env) fp) ta g)
    (ht : ∀ (s : Shared) (H : Hp) (C : Addr) (cl : List (Str × Addr)) (fp : List Addr), PTs (X.blk s H sc (compEnvC sc cl C X.env) fp) fs tt)
    (he : ∀ (pins : List (Addr × Obj)) (σ : L2.St) (s : Shared) (H : Hp) (C : Addr) (cl : List (Str × Addr)) (fp : List Addr), Inv X pins σ H s → (∀ b ∈ fp, FpOk X pins H b) → PE (X.blk s H sc (compEnvC sc cl C X.env) fp) el (te σ))
    (hs : ∀ x, foldedSetIterable ia X.env x = pure x := by intro _; rfl) :
    PE X (.ListComp el [⟨ta, ia, fs, 0⟩] sc ps) (fun σ H Q => tLc wi g tt (te σ) (own.map (·.2)) σ H Q) := by
  refine ⟨fun pz z0 sg G0 Qq K0 h => ?_⟩
  rw [eval_ListComp]
  have frees : ∀ y ∈ sc.names, y.2 = .free → ∃ c, X.env.cells.lookup y.1 = some c := fun y hy e => K0.ok.has _ (ok.free y hy e)
  refine wpAny_comprehension_free (use := none) rfl hs (closure_ok frees) ok.kind (fun y hy e => (ok.uniq y hy).trans (congrArg some e)) (thn (hi.run pz z0 sg G0 _ K0 h) fun _ z1 h1 => thn h1 fun iv z2 h2 => ?_)
  obtain ⟨it, fp, tn, Jt, G2, rfl, K2, T, t2, f2, q⟩ := h2
  refine wpAny_newObj_type (newEnv_comp ?_) (by show 0 ≤ sizeLine; decide); obtain ⟨D, hD⟩ : ∃ D, D = z2.heap.objs.size := ⟨_, rfl⟩
  rw [← hD]
  have freeD : G2 D = none := K2.hok.fresh (Nat.le_of_eq hD.symm)
  obtain ⟨W, ⟨m0, w0⟩, turn⟩ := q D freeD
  obtain ⟨z3, hz3⟩ : ∃ z3 : Shared, z3 = { z2 with heap := z2.heap.push { cls := .type "list", data := .seq ([] : List Value).toArray } } := ⟨_, rfl⟩
  have p3 : z3.heap = z2.heap.push { cls := .type "list", data := .seq ([] : List Value).toArray } := by rw [hz3]
  have keep3 : ∀ b o, z2.heap.get? b = some o → z3.heap.get? b = some o := fun b o e => by
    rw [p3]
    exact Heap.get?_push_of_some (h := z2.heap) _ e
  have K3 : Inv X pz sg (upd G2 D (.lst [])) z3 := by
    rw [hz3]
    refine K2.laid (t' := z2.toks) (fun b o e => Heap.get?_push_of_some _ e) (Nat.le_of_eq hD.symm) ⟨Nat.zero_le _, [], 0, .nil, ?_⟩
    rw [hD]
    exact Heap.get?_push_size z2.heap rfl
  have old : ∀ b ∈ fp, b < z2.heap.objs.size := fun b hb => (T.obj _ _ t2 b hb).elim fun _ e => Heap.lt_size e.1
  have f3 : ∀ b ∈ fp, FpOk X pz (upd G2 D (.lst [])) b ∧ b < z3.heap.objs.size := fun b hb =>
    ⟨⟨by rw [upd_ne (by rw [hD]; exact Nat.ne_of_lt (old b hb))]; exact (f2 b hb).1, (f2 b hb).2⟩, by rw [p3, Heap.size_push]; exact Nat.lt_succ_of_lt (old b hb)⟩
  have K4 := block_start K3 ok hN f3
  have Bg := hg z3 (upd G2 D (.lst [])) z3.heap.objs.size (cellsFrom (z3.heap.objs.size + 1) sc.names (cloFrom X.env.cells sc.names [])) fp
  have Bt := ht z3 (upd G2 D (.lst [])) z3.heap.objs.size (cellsFrom (z3.heap.objs.size + 1) sc.names (cloFrom X.env.cells sc.names [])) fp
  have Be := he pz sg z3 (upd G2 D (.lst [])) z3.heap.objs.size (cellsFrom (z3.heap.objs.size + 1) sc.names (cloFrom X.env.cells sc.names [])) fp K3 fun b hb => (f3 b hb).1
  have goal : codeAny (model X.prog X.w) X.A (.compStart (.ListComp el [⟨ta, ia, fs, 0⟩] sc ps) 0 (.ref it) (.ref D) (compEnvC sc (cellsFrom (z3.heap.objs.size + 1) sc.names (cloFrom X.env.cells sc.names [])) z3.heap.objs.size X.env))
      (compPost (model X.prog X.w) X.A X.xe none (EP X pz sg Qq) (.ref D) z3.heap.objs.size) { z3 with heap := pushCells (z3.heap.push { cls := .type "dict", data := .dict #[] }) sc.names } := by
    obtain ⟨ce, hce⟩ : ∃ ce, ce = compEnvC sc (cellsFrom (z3.heap.objs.size + 1) sc.names (cloFrom X.env.cells sc.names [])) z3.heap.objs.size X.env := ⟨_, rfl⟩
    rw [← hce] at K4 Bg Bt Be ⊢
    have lc : ce.locals = z3.heap.objs.size := by rw [hce]; rfl
    obtain ⟨G3, hG3⟩ : ∃ G3, G3 = upd G2 D (.lst []) := ⟨_, rfl⟩
    rw [← hG3] at K3 K4 Bg Bt Be w0 f3
    have nf3 : ∀ b ∈ fp, G3 b = none := fun b hb => (f3 b hb).1.1
    obtain ⟨z4, hz4⟩ : ∃ z4 : Shared, z4 = { z3 with heap := pushCells (z3.heap.push { cls := .type "dict", data := .dict #[] }) sc.names } := ⟨_, rfl⟩
    rw [← hz4] at K4 ⊢
    have t4 : tn 0 z4.heap := T.keep _ _ _ t2 fun b _ o e => by
      rw [hz4]
      exact pushCells_keeps _ _ _ _ (Heap.get?_push_of_some _ (keep3 b o e))
    have fpk : ∀ {sg' : L2.St} {G' : Hp} {z' : Shared}, Inv (X.blk z3 G3 sc ce fp) [] sg' G' z' → (∀ b ∈ fp, G' b = none) → ∀ b ∈ fp, FpOk (X.blk z3 G3 sc ce fp) [] G' b := fun Kk hn b hb =>
      ⟨hn b hb, (Kk.ok.exf b hb).1, Kk.ok.exfs b hb, .inl hb, fun x c e => (Kk.ok.exf b hb).2 x c e, fun p hp => by simp at hp⟩
    have loop : codeAny (model X.prog X.w) X.A (.compLoop (.ListComp el [⟨ta, ia, fs, 0⟩] sc ps) 0 (.ref it) (.ref D) ce) (compPost (model X.prog X.w) X.A X.xe none (EP X pz sg Qq) (.ref D) z3.heap.objs.size) z4 := by
      refine compLoop_any (fun n z => ∃ i G, Inv (X.blk z3 G3 sc ce fp) [] (wipe sg (own.map (·.2))) G z ∧ tn i z.heap ∧ (∀ b ∈ fp, G b = none) ∧ W i n G) ?_ m0 ⟨0, G3, K4, t4, nf3, w0⟩
      rintro n z5 ⟨i, G5, K5, t5, n5, w5⟩
      rcases turn i n G5 w5 with ⟨halt, qq⟩ | ⟨go, Nx, hNx, step⟩
      · refine thnF (T.done (X.blk z3 G3 sc ce fp) rfl rfl rfl hc i [] z5 _ G5 (fun _ _ => False) K5 (fpk K5 n5) t5 halt) fun r z6 ⟨hr, K6⟩ => ?_
        subst hr
        have K7 : Inv X pz sg G5 z6 := K3.call' (ch := fp) K6.os K6.base K6.hok K6.bare fun b hb => ⟨(f3 b hb).1.2.2.2.1, (f3 b hb).1.2.1, (f3 b hb).1.2.2.2.2.1, (f3 b hb).1.2.2.2.2.2⟩
        have nC : G5 z3.heap.objs.size = none := lc ▸ (show G5 ce.locals = none from K6.free)
        obtain ⟨m, hm, _⟩ := K6.loc
        have ff := K3.fpOk (Nat.le_refl _) nC
        refine ⟨m, lc ▸ (show z6.heap.Ns ce.locals m from hm), fun h'' sb => ?_⟩
        obtain ⟨a0, a1, _, a3, a4, a5⟩ := ff
        exact ⟨.ref D, G5, K7.turned (t' := z6.toks) (fun b o hb e => (sb.2 b hb).trans e) a0 a1 a3 a4 a5, rfl, qq⟩
      · refine thnF (T.item (X.blk z3 G3 sc ce fp) rfl rfl rfl hc i [] z5 _ G5 (fun _ _ => False) K5 (fpk K5 n5) t5 go) fun r z6 ⟨u, hr, h6⟩ => ?_
        subst hr
        refine thnF h6 fun _ z7 ⟨x, G7, K7, r7, y7, t7, n7⟩ => ?_
        refine thnF (Bg.run _ z7 _ G7 x u _ (K7.pinned (fpk K7 n7) (T.obj _ _ t7)) r7 (step x G7 y7)) fun _ z8 ⟨sg8, G8, K8, w8, q8⟩ => ?_
        refine thnF (Bt.run _ z8 sg8 G8 _ K8 q8) fun b z9 ⟨G9, K9, q9⟩ => ?_
        have fin : ∀ {z' : Shared} {G' : Hp}, Inv (X.blk z3 G3 sc ce fp) ([] ++ pinsAt fp z7.heap) sg8 G' z' → Nx G' → ∃ m, m < n ∧ ∃ i G, Inv (X.blk z3 G3 sc ce fp) [] (wipe sg (own.map (·.2))) G z' ∧ tn i z'.heap ∧ (∀ b ∈ fp, G b = none) ∧ W i m G := fun {z' G'} Kk nx => by
          obtain ⟨m', lt, w'⟩ := hNx G' nx
          have pin : ∀ b ∈ fp, ∀ o, z7.heap.get? b = some o → z'.heap.get? b = some o ∧ G' b = none := fun b hb o e =>
            let y := Kk.pin (b, o) (List.mem_append_right _ (List.mem_append_right _ (mem_pinsAt hb e)))
            ⟨y.1, y.2.1⟩
          refine ⟨m', lt, i + 1, G', (Kk.unpinned (pins := [])).weak (by rw [← w8, wipe_length]) (fun j v e => by rw [← w8] at e; exact (wipe_some e).1), T.keep _ _ _ t7 fun b hb o e => (pin b hb o e).1, fun b hb => ?_, w'⟩
          obtain ⟨o, e, _⟩ := T.obj _ _ t7 b hb
          exact (pin b hb o e).2
        cases b with
        | false =>
          simp only [Bool.false_eq_true, if_false] at q9 ⊢; exact fin K9 q9
        | true =>
          simp only [if_true] at q9 ⊢
          refine thnF (Be.run _ z9 sg8 G9 _ K9 q9) fun v z10 ⟨y, G10, K10, r10, acc, eD, room, nx⟩ => ?_
          exact app_ok (X := X.blk z3 G3 sc ce fp) K10 eD room r10 fun z11 K11 => fin K11 nx
    exact codeAny_compStart_list loop (T.self X.A 0 _ _ _ t4 loop)
  exact hz3 ▸ goal
end
end Cc

/-! What stands where lambdas were made: the code's table grows, all else stays. -/
namespace Cc
open PySem PySem.Spec PyProof.Rows L2
open LamX
theorem tabs_but {T : List (Addr × Str)} {H H' : Hp} {s : Addr} (t : Tabs T H) (b : But s H H') (hs : ∃ xs, H s = some (.lst xs)) : Tabs T H' := fun p hp => by
  obtain ⟨xs, hx⟩ := hs
  obtain ⟨ps, h1, h2, h3⟩ := t p hp
  refine ⟨ps, b _ _ (ne_of h1 hx fun z => nomatch z) h1, h2, fun pos cv hc => ?_⟩
  obtain ⟨c0, e1, e2⟩ := h3 pos cv hc
  exact ⟨c0, e1, b _ _ (ne_of e2 hx fun z => by unfold CodeO at z; cases z) e2⟩
theorem drawAt_extN {K : PySem.W.Frag} {H H' : Hp} {s : Addr} (h : DrawAt K H s) (e : ExtN H H') : DrawAt K H' s := by
  obtain ⟨a, ns, p, x, y, e1, q, l, z⟩ := h
  exact ⟨a, ns, p, x, y, e _ _ e1 (fun _ z => by cases z), q.keep fun b o u w => e _ _ w fun _ z => (by cases z), l, z⟩
theorem steps_extN {H H' : Hp} {vs : List V} {ss : List Stp} (h : Steps H vs ss) (e : ExtN H H') : Steps H' vs ss := h.mono fun t xs w => e _ _ w fun _ z => by cases z
theorem planAt_extN {C : Addr} {H H' : Hp} {p : Addr} {ss : List Stp} (h : PlanAt C H p ss) (e : ExtN H H') : PlanAt C H' p ss := by
  obtain ⟨dx, tp, ws, a, ⟨o, d0, b⟩, d⟩ := h
  exact ⟨dx, tp, ws, e _ _ a (fun _ z => by cases z), ⟨o, d0, e _ _ b (fun _ z => by cases z)⟩, steps_extN d e⟩
theorem extN_same {H H' : Hp} (s : Same H H') : ExtN H H' := fun b o e _ => s b o e
theorem extN_lst {H H' : Hp} {l : Addr} {xs : List V} (e : ExtN H H') (h : H l = some (.lst xs)) : H' l = some (.lst xs) := e _ _ h fun _ z => by cases z
theorem extN_none {H H' : Hp} {l : Addr} {xs : List V} (h : H l = none) (h' : H' l = some (.lst xs)) : H ≠ H' := fun z => by rw [z, h'] at h; cases h
/-- an append to a list: what else stands -/
theorem lamAt_but {H H' : Hp} {l f : Addr} {q : Str} {params : Arguments} {body : Expr} {scope : Scope} {cl : List (Str × Addr)} {ds : List V} (h : LamAt H f q params body scope cl ds) (b : But l H H') (hl : ∃ xs, H l = some (.lst xs)) : LamAt H' f q params body scope cl ds := by
  obtain ⟨xs, hx⟩ := hl
  obtain ⟨c', dv, h1, h2, h3⟩ := h
  refine ⟨c', dv, b _ _ (ne_of h1 hx fun z => by unfold LamO at z; cases z) h1, b _ _ (ne_of h2 hx fun z => by unfold CodeO at z; cases z) h2, h3.imp id fun ⟨T, v, z1, z2, z3⟩ => ⟨T, v, z1, z2, b _ _ (ne_of z3 hx fun z => nomatch z) z3⟩⟩
theorem but_app {H : Hp} {l : Addr} {o : HO} : But l H (upd H l o) := but_upd
/-- a refusal as data -/
abbrev noNum : PyData := .tuple [.str "InvalidNumber"]
def NoAt (H : Hp) (v : V) : Prop := ∃ t, v = .ref t ∧ H t = some (.tup [.str "InvalidNumber"])
theorem dp_no {K : PySem.W.Frag} {H : Hp} : ∀ {vs : List V}, (∀ v ∈ vs, NoAt H v) → DpAll K H vs (List.replicate vs.length noNum)
  | [], _ => .nil
  | v :: vs, h => by
    obtain ⟨t, rfl, ht⟩ := h v List.mem_cons_self
    exact .cons (.tup (SqT.of ht) (.cons (.str _) .nil)) (dp_no fun u hu => h u (List.mem_cons_of_mem _ hu))
theorem shaped_no : SeqAt.shaped (.list (List.replicate 5 noNum)) = true := by decide +kernel
theorem eqv_no : PyData.eqv (.list (List.replicate 5 noNum)) (.list (List.replicate 5 noNum)) = true := by decide +kernel
/-- the exceptions of the class at CN alone -/
def eN (CN : Addr) (E : XK) : XK := fun cls d H => cls = .ref CN ∧ E cls d H
end Cc

/-! The second part's outcome of a lambda: any of the nine errors. -/
namespace Cc
open PySem PySem.Spec PyProof.Rows L2
open LamX
abbrev sOutcome : Stmt := top 39
abbrev oN : List Str := ["_law_call", "e", "_law_kinds", "_law_words", "_law_word"]
theorem scOutcome : FnScope oN ["_law_call"] (defScope sOutcome) := ⟨rfl, rfl, rfl, by decide +kernel, rfl, by decide +kernel, by decide +kernel⟩
def hOut : List Stmt := match defBody sOutcome with
  | [.Try _ [.ExceptHandler _ _ b _] _ _ _] => b
  | _ => []
/-- what is told of an error: its word, and its field where the word has one -/
def Told (wd : Str) (d : Option Addr) (H : Hp) (r : List V) : Prop :=
  (inV (.str wd) [.str "operation", .str "plan", .str "few"] = true ∧ ∃ dd fs v, d = some dd ∧ H dd = some (.xd fs) ∧ fs.lookup ("index" : Str) = some v ∧ r = [.str wd, v]) ∨
  (inV (.str wd) [.str "operation", .str "plan", .str "few"] = false ∧ inV (.str wd) [.str "daybook", .str "text"] = true ∧ ∃ dd fs v, d = some dd ∧ H dd = some (.xd fs) ∧ fs.lookup ("row" : Str) = some v ∧ r = [.str wd, v]) ∨
  (inV (.str wd) [.str "operation", .str "plan", .str "few"] = false ∧ inV (.str wd) [.str "daybook", .str "text"] = false ∧ decide (V.str wd = V.str "code") = true ∧ ∃ dd fs v, d = some dd ∧ H dd = some (.xd fs) ∧ fs.lookup ("offset" : Str) = some v ∧ r = [.str wd, v]) ∨
  (inV (.str wd) [.str "operation", .str "plan", .str "few"] = false ∧ inV (.str wd) [.str "daybook", .str "text"] = false ∧ decide (V.str wd = V.str "code") = false ∧ r = [.str wd])
section
variable {K : PySem.W.Frag} {mg : Str → Option Value} {D e0 e1 e2 e3 e4 e5 e6 e7 e8 : Addr} {b0 b1 b2 b3 b4 b5 b6 b7 b8 : Bool} {j : Nat} {wd : Str}
def hRdA (a D : Addr) (wd : Str) (cls : Value) (d : Option Addr) : TS := fun De σ H => cls = .ref D ∧ (∃ x0 x2 x3 x4, σ = [x0, some (.ref a), x2, x3, x4]) ∧ (∀ dd, d = some dd → ∃ fs, H dd = some (.xd fs)) ∧ ∃ r, Told wd d H r ∧ ∀ p H', Same H H' → H' p = some (.tup r) → De.rt (.ref p) H'
theorem hand_any {P : Program} {w : World} {base : Heap} {fO a : Addr} {cdv cls : Value} {A : Around} {outer : List Env} {s : Shared} {H : Hp} {k : Nat} {oe : Obj} {d : Option Addr} {pn : List (Addr × Obj)} (NG : Nine mg e0 e1 e2 e3 e4 e5 e6 e7 e8) (KA : KindA K D e0 e1 e2 e3 e4 e5 e6 e7 e8 b0 b1 b2 b3 b4 b5 b6 b7 b8) (FL : Flags b0 b1 b2 b3 b4 b5 b6 b7 b8 j wd) (B : Bt mg)
    (hr : Room k (A.deeper (envOfC "_law_outcome" (defScope sOutcome) s.heap.objs.size fO cdv))) (hz0 : Zc cls d oe) (hf : ∃ vs, oe.data = .fields vs) :
    PSs ((cxOf CX0 P w K mg base oN "_law_outcome" (defScope sOutcome) fO cdv A outer s H E0).nox.suite a ((a, oe) :: pn)) hOut (hRdA a D wd cls d) := by
  refine ⟨fun pins z σ Hz De I ⟨e1, ⟨x0, x2, x3, x4, e3⟩, dx, r, tl, k⟩ => ?_⟩
  subst e1 e3
  have hz : Zc (.ref D) d oe := hz0
  suffices h : ∃ t, PSs ((cxOf CX0 P w K mg base oN "_law_outcome" (defScope sOutcome) fO cdv A outer s H E0).nox.suite a ((a, oe) :: pn)) hOut t ∧ t De [x0, some (.ref a), x2, x3, x4] Hz from let ⟨t, h1, h2⟩ := h; h1.run pins z _ Hz De I h2
  have h65 : ((cxOf CX0 P w K mg base oN "_law_outcome" (defScope sOutcome) fO cdv A outer s H E0).nox.suite a ((a, oe) :: pn)).A.units + 65 < cLine := by
    have z := room65 hr
    exact z
  refine ⟨_, pss_cons (ps_set (i := 2) scOutcome.nd rfl (.inl rfl) (pe_lst (pa_cons (pe_callB (call_isG KA.ec KA.tt KA.ss hz hf) (by rfl) B.isinstance (by decide +kernel) (pa_cons (pv 1) (pa_cons (pe_glob (v := .ref e0) rfl NG.t0 rfl) pa_nil))) (pa_cons (pe_callB (call_isG KA.ec KA.tt KA.ss hz hf) (by rfl) B.isinstance (by decide +kernel) (pa_cons (pv 1) (pa_cons (pe_glob (v := .ref e1) rfl NG.t1 rfl) pa_nil))) (pa_cons (pe_callB (call_isG KA.ec KA.tt KA.ss hz hf) (by rfl) B.isinstance (by decide +kernel) (pa_cons (pv 1) (pa_cons (pe_glob (v := .ref e2) rfl NG.t2 rfl) pa_nil))) pa_nil)))))
      (pss_cons (ps_expr (pe_bm PySem.F.plainAttrs_list PySem.F.slot_list_extend PySem.F.type_list_extend mt_extend (pv 2) (pa_cons (pe_lst (pa_cons (pe_callB (call_isG KA.ec KA.tt KA.ss hz hf) (by rfl) B.isinstance (by decide +kernel) (pa_cons (pv 1) (pa_cons (pe_glob (v := .ref e3) rfl NG.t3 rfl) pa_nil))) (pa_cons (pe_callB (call_isG KA.ec KA.tt KA.ss hz hf) (by rfl) B.isinstance (by decide +kernel) (pa_cons (pv 1) (pa_cons (pe_glob (v := .ref e4) rfl NG.t4 rfl) pa_nil))) (pa_cons (pe_callB (call_isG KA.ec KA.tt KA.ss hz hf) (by rfl) B.isinstance (by decide +kernel) (pa_cons (pv 1) (pa_cons (pe_glob (v := .ref e5) rfl NG.t5 rfl) pa_nil))) pa_nil)))) pa_nil)))
      (pss_cons (ps_expr (pe_bm PySem.F.plainAttrs_list PySem.F.slot_list_extend PySem.F.type_list_extend mt_extend (pv 2) (pa_cons (pe_lst (pa_cons (pe_callB (call_isG KA.ec KA.tt KA.ss hz hf) (by rfl) B.isinstance (by decide +kernel) (pa_cons (pv 1) (pa_cons (pe_glob (v := .ref e6) rfl NG.t6 rfl) pa_nil))) (pa_cons (pe_callB (call_isG KA.ec KA.tt KA.ss hz hf) (by rfl) B.isinstance (by decide +kernel) (pa_cons (pv 1) (pa_cons (pe_glob (v := .ref e7) rfl NG.t7 rfl) pa_nil))) (pa_cons (pe_callB (call_isG KA.ec KA.tt KA.ss hz hf) (by rfl) B.isinstance (by decide +kernel) (pa_cons (pv 1) (pa_cons (pe_glob (v := .ref e8) rfl NG.t8 rfl) pa_nil))) pa_nil)))) pa_nil)))
      (pss_cons (ps_if (PW.pt (pw_or (pt_cmpR op_ne (pe_bm PySem.F.plainAttrs_list PySem.F.slot_list_count PySem.F.type_list_count (mt_countL h65) (pv 2) (pa_cons pe_bl pa_nil)) pe_int (nomark _)) (pw_or1 (pt_not (pt_val (pe_callB (call_isG KA.ec KA.tt KA.ss hz hf) (by rfl) B.isinstance (by decide +kernel) (pa_cons (pv 1) (pa_cons (pe_bltn (v := .ty "ValueError") (by rfl) B.verr (by decide +kernel) rfl) pa_nil))))))))
        (pss_one (ps_ret (pe_tup (pa_cons pe_str pa_nil)))) pss_nil)
      (pss_cons (ps_set (i := 3) scOutcome.nd rfl (.inl rfl) (pe_lst (pa_cons pe_str (pa_cons pe_str (pa_cons pe_str (pa_cons pe_str (pa_cons pe_str (pa_cons pe_str (pa_cons pe_str (pa_cons pe_str (pa_cons pe_str pa_nil)))))))))))
      (pss_cons (ps_set (i := 4) scOutcome.nd rfl (.inl rfl) (pe_ix ix_list (pv 3) (pe_bm PySem.F.plainAttrs_list PySem.F.slot_list_index PySem.F.type_list_index (mt_indexD h65) (pv 2) (pa_cons pe_bl pa_nil)) (fun _ _ => rfl)))
      (pss_cons (ps_if (pt_cmpR op_in_seq (pv 4) (pe_tup (pa_cons pe_str (pa_cons pe_str (pa_cons pe_str pa_nil)))) (by rfl))
        (pss_one (ps_ret (pe_tup (pa_cons (pv 4) (pa_cons (pe_xf KA.xf KA.nI hz hf (pv 1)) pa_nil))))) pss_nil)
      (pss_cons (ps_if (pt_cmpR op_in_seq (pv 4) (pe_tup (pa_cons pe_str (pa_cons pe_str pa_nil))) (by rfl))
        (pss_one (ps_ret (pe_tup (pa_cons (pv 4) (pa_cons (pe_xf KA.xf KA.nR hz hf (pv 1)) pa_nil))))) pss_nil)
      (pss_one (ps_ret (pe_ifExp (pt_cmpR op_eq (pv 4) pe_str (nomark _)) (pe_tup (pa_cons (pv 4) (pa_cons (pe_xf KA.xf KA.nO hz hf (pv 1)) pa_nil))) (pe_tup (pa_cons (pv 4) pa_nil)))))))))))), ?_⟩
  have dk : ∀ H', Same Hz H' → ∀ dd, d = some dd → ∃ fs, H' dd = some (.xd fs) := fun H' s dd e => let ⟨fs, q⟩ := dx dd e; ⟨fs, s _ _ q⟩
  refine ⟨_, rfl, .ref e0, _, b0, rfl, dx, fun u h => h, KA.k0, _, rfl, .ref e1, _, b1, rfl, dx, fun u h => h, KA.k1, _, rfl, .ref e2, _, b2, rfl, dx, fun u h => h, KA.k2, by show 3 ≤ sizeLine; decide, fun l1 h1 => ?_⟩
  have s1 := same_upd (o := .lst [.bl b0, .bl b1, .bl b2]) h1
  have g1 := upd_same (H := Hz) (a := l1) (o := .lst [.bl b0, .bl b1, .bl b2])
  generalize upd Hz l1 (.lst [.bl b0, .bl b1, .bl b2]) = H1 at *
  refine ⟨_, rfl, .inl ⟨rfl, _, SqL.of g1⟩, _, rfl, .ref e3, _, b3, rfl, dk _ s1, fun u h => h, KA.k3, _, rfl, .ref e4, _, b4, rfl, dk _ s1, fun u h => h, KA.k4, _, rfl, .ref e5, _, b5, rfl, dk _ s1, fun u h => h, KA.k5, by show 3 ≤ sizeLine; decide, fun l2 h2 => ?_⟩
  refine ⟨l1, l2, _, _, rfl, rfl, (same_upd h2) _ _ g1, upd_same, by show 6 ≤ sizeLine; decide, ?_⟩
  have nx : ∀ (H' : Hp) (zs : List V), Same Hz H' → Same Hz (upd H' l1 (.lst zs)) := fun H' zs s b o e => by
    rw [upd_ne (ne_of_none e h1)]
    exact s _ _ e
  have s2 := nx _ [.bl b0, .bl b1, .bl b2, .bl b3, .bl b4, .bl b5] (s1.trans (same_upd (o := .lst [.bl b3, .bl b4, .bl b5]) h2))
  have g2 := upd_same (H := upd H1 l2 (.lst [.bl b3, .bl b4, .bl b5])) (a := l1) (o := .lst [.bl b0, .bl b1, .bl b2, .bl b3, .bl b4, .bl b5])
  simp only [List.cons_append, List.nil_append]
  generalize upd (upd H1 l2 (.lst [.bl b3, .bl b4, .bl b5])) l1 (.lst [.bl b0, .bl b1, .bl b2, .bl b3, .bl b4, .bl b5]) = H2 at *
  refine ⟨_, rfl, .inl ⟨rfl, _, SqL.of g2⟩, _, rfl, .ref e6, _, b6, rfl, dk _ s2, fun u h => h, KA.k6, _, rfl, .ref e7, _, b7, rfl, dk _ s2, fun u h => h, KA.k7, _, rfl, .ref e8, _, b8, rfl, dk _ s2, fun u h => h, KA.k8, by show 3 ≤ sizeLine; decide, fun l3 h3 => ?_⟩
  refine ⟨l1, l3, _, _, rfl, rfl, (same_upd h3) _ _ g2, upd_same, by show 9 ≤ sizeLine; decide, ?_⟩
  have s3 := nx _ [.bl b0, .bl b1, .bl b2, .bl b3, .bl b4, .bl b5, .bl b6, .bl b7, .bl b8] (s2.trans (same_upd (o := .lst [.bl b6, .bl b7, .bl b8]) h3))
  have g3 := upd_same (H := upd H2 l3 (.lst [.bl b6, .bl b7, .bl b8])) (a := l1) (o := .lst [.bl b0, .bl b1, .bl b2, .bl b3, .bl b4, .bl b5, .bl b6, .bl b7, .bl b8])
  simp only [List.cons_append, List.nil_append]
  generalize upd (upd H2 l3 (.lst [.bl b6, .bl b7, .bl b8])) l1 (.lst [.bl b0, .bl b1, .bl b2, .bl b3, .bl b4, .bl b5, .bl b6, .bl b7, .bl b8]) = H3 at *
  have dp : ∀ H', DpAll K H' [.bl b0, .bl b1, .bl b2, .bl b3, .bl b4, .bl b5, .bl b6, .bl b7, .bl b8] [.bool b0, .bool b1, .bool b2, .bool b3, .bool b4, .bool b5, .bool b6, .bool b7, .bool b8] := fun H' => .cons (.bl _) (.cons (.bl _) (.cons (.bl _) (.cons (.bl _) (.cons (.bl _) (.cons (.bl _) (.cons (.bl _) (.cons (.bl _) (.cons (.bl _) .nil))))))))
  refine ⟨_, rfl, .inl ⟨rfl, _, SqL.of g3⟩, l1, _, .bl true, .bool true, _, rfl, rfl, SqL.of g3, dp _, .bl _, FL.sh, by decide +kernel, FL.pl, by decide +kernel, ?_⟩
  rw [FL.one]
  refine ⟨rfl, _, rfl, iteF ?_⟩
  refine ⟨_, rfl, .ty "ValueError", _, true, rfl, dk _ s3, fun u h => h, KA.kv, _, rfl, iteF ?_⟩
  refine ⟨by show 9 ≤ sizeLine; decide, fun l4 h4 => ?_⟩
  have s4 := s3.trans (same_upd (o := .lst [.str "daybook", .str "code", .str "booking", .str "number", .str "operation", .str "plan", .str "text", .str "enough", .str "few"]) h4)
  have g4 := (same_upd (o := .lst [.str "daybook", .str "code", .str "booking", .str "number", .str "operation", .str "plan", .str "text", .str "enough", .str "few"]) h4) _ _ g3
  have w4 := upd_same (H := H3) (a := l4) (o := .lst [.str "daybook", .str "code", .str "booking", .str "number", .str "operation", .str "plan", .str "text", .str "enough", .str "few"])
  generalize upd H3 l4 (.lst [.str "daybook", .str "code", .str "booking", .str "number", .str "operation", .str "plan", .str "text", .str "enough", .str "few"]) = H4 at *
  refine ⟨_, rfl, _, rfl, .inl ⟨rfl, _, SqL.of g4⟩, l1, .bl true, .bool true, _, j, .bool true, rfl, rfl, .lst (SqL.of g4) (dp _), .bl _, FL.sh, by decide +kernel, FL.at_, by decide +kernel, FL.no, l4, _, _, .str wd, rfl, rfl, SqL.of w4, at_of (j := j) rfl FL.wd, ?_⟩
  have tk : ∀ {H' dd fs}, Same Hz H' → Hz dd = some (.xd fs) → H' dd = some (.xd fs) := fun s e => s _ _ e
  refine ⟨_, rfl, by show 3 ≤ sizeLine; decide, fun l5 h5 => ⟨l5, _, rfl, .inr (SqT.of upd_same), rfl, rfl, _, rfl, ?_⟩⟩
  have s5 := s4.trans (same_upd (o := .tup [.str "operation", .str "plan", .str "few"]) h5)
  generalize upd H4 l5 (.tup [.str "operation", .str "plan", .str "few"]) = H5 at *
  rcases tl with ⟨f1, dd, fs, v, ed, ex, el, er⟩ | tl
  · subst er ed
    exact ifT f1 ⟨_, rfl, _, rfl, rfl, rfl, dd, fs, v, rfl, tk s5 ex, el, by show 2 ≤ sizeLine; decide, fun p hp => k p _ (s5.trans (same_upd hp)) upd_same⟩
  have f1 : inV (.str wd) [.str "operation", .str "plan", .str "few"] = false := by
    rcases tl with q | q | q
    · exact q.1
    · exact q.1
    · exact q.1
  refine ifF f1 ⟨_, rfl, by show 2 ≤ sizeLine; decide, fun l6 h6 => ⟨l6, _, rfl, .inr (SqT.of upd_same), rfl, rfl, _, rfl, ?_⟩⟩
  have s6 := s5.trans (same_upd (o := .tup [.str "daybook", .str "text"]) h6)
  generalize upd H5 l6 (.tup [.str "daybook", .str "text"]) = H6 at *
  rcases tl with ⟨_, f2, dd, fs, v, ed, ex, el, er⟩ | ⟨_, f2, f3, dd, fs, v, ed, ex, el, er⟩ | ⟨_, f2, f3, er⟩
  · subst er ed
    exact ifT f2 ⟨_, rfl, _, rfl, rfl, rfl, dd, fs, v, rfl, tk s6 ex, el, by show 2 ≤ sizeLine; decide, fun p hp => k p _ (s6.trans (same_upd hp)) upd_same⟩
  · subst er ed
    exact ifF f2 ⟨_, rfl, rfl, _, rfl, ifT f3 ⟨_, rfl, _, rfl, rfl, rfl, dd, fs, v, rfl, tk s6 ex, el, by show 2 ≤ sizeLine; decide, fun p hp => k p _ (s6.trans (same_upd hp)) upd_same⟩⟩
  · subst er
    exact ifF f2 ⟨_, rfl, rfl, _, rfl, ifF f3 ⟨_, rfl, by show 1 ≤ sizeLine; decide, fun p hp => k p _ (s6.trans (same_upd hp)) upd_same⟩⟩
end
/-- a lambda at f of this def, and what its call does -/
def CanAct (X : Cx) (k : Nat) (σ : L2.St) (f : Addr) (E : XK) (H : Hp) (Q : VK) : Prop :=
  ∃ (params : Arguments) (body : Expr) (scope : Scope) (ds : List V) (tb : TE), LamAt H f (X.env.qual ++ "<lambda>") params body scope (cloFrom X.env.cells scope.names []) ds ∧ LamN X.N X.env.scope scope ∧ LamBind params body scope ds ∧
    (ds = [] → ∀ (q : Str) (cl : List (Str × Addr)) (pm cv ctv : Value), bindArgs (laFn q params body scope cl pm .none cv ctv) ⟨[], []⟩ = pure []) ∧
    (∀ (A : Around) (outer : List Env) (s : Shared) (H : Hp) (c' : Addr), Room k (A.deeper (lamEnv X scope s.heap.objs.size f c')) → PE (lamCx X A outer s H E scope f c') body tb) ∧ tb σ H Q
theorem pe_can {X : Cx} {pins : List (Addr × Obj)} {σ : L2.St} {H : Hp} {s : Shared} {CXg : CXT} {Eg : XK} {Ng : List Str} {qg : Str} {sg : Scope} {g f : Addr} {cdg : Value} {k i : Nat} {a : Str} {pn : List (Addr × Obj)} {xe : Value → Shared → Prop} {W : WX} {E : XK} {p1 p2 : Pos}
    (I : Inv X pins σ H s) (tk : Takes ((cxOf CXg X.prog X.w X.K X.mg X.base Ng qg sg g cdg X.A X.stack s H Eg).tr pn xe) W) (hW : ∀ cls d σ' H', E cls d H' → W cls d σ' H') (hr : Room (k + 1) (X.A.deeper (envOfC qg sg s.heap.objs.size g cdg)))
    (hN : Ng[i]? = some a) (hv : Vis sg a) (hd : (a == ("__debug__" : Str)) = false := by decide) (hcd : (a == ("__classdict__" : Str)) = false := by decide) : PE ((cxOf CXg X.prog X.w X.K X.mg X.base Ng qg sg g cdg X.A X.stack s H Eg).tr pn xe) (.Call (.Name a p1) [] [] p2) (fun σZ HZ Q => σZ[i]? = some (some (.ref f)) ∧ CanAct X k σ f E HZ Q) := by
  refine ⟨fun pinsZ sZ σZ HZ Q IZ ⟨hs, params, body, scope, ds, tb, h1, h2, h3, h4, h5, h6⟩ => ?_⟩
  exact (la_act (i := i) I h2 h3 h4 tk hW hr h5 hN hv hd hcd).run pinsZ sZ σZ HZ Q IZ ⟨hs, h1, h6⟩
/-- an own error, its word -/
def IsKind (K : PySem.W.Frag) (CE e0 e1 e2 e3 e4 e5 e6 e7 e8 D : Addr) (wd : Str) : Prop := PySem.W.exmOne K (.ref D) (.ref CE) = some true ∧ ∃ (b0 b1 b2 b3 b4 b5 b6 b7 b8 : Bool) (j : Nat), KindA K D e0 e1 e2 e3 e4 e5 e6 e7 e8 b0 b1 b2 b3 b4 b5 b6 b7 b8 ∧ Flags b0 b1 b2 b3 b4 b5 b6 b7 b8 j wd
/-- what is refused tells so -/
def OutA (K : PySem.W.Frag) (CE e0 e1 e2 e3 e4 e5 e6 e7 e8 : Addr) (Q : VK) : XK := fun cls d H' => ∃ (D : Addr) (wd : Str) (r : List V), cls = .ref D ∧ IsKind K CE e0 e1 e2 e3 e4 e5 e6 e7 e8 D wd ∧ (∀ dd, d = some dd → ∃ fs, H' dd = some (.xd fs)) ∧ Told wd d H' r ∧ ∀ p H2, Same H' H2 → H2 p = some (.tup r) → Q (.ref p) H2
def hRdX (K : PySem.W.Frag) (CE e0 e1 e2 e3 e4 e5 e6 e7 e8 a : Addr) (cls : Value) (d : Option Addr) : TS := fun De σ H => ∃ (D : Addr) (wd : Str), IsKind K CE e0 e1 e2 e3 e4 e5 e6 e7 e8 D wd ∧ hRdA a D wd cls d De σ H
/-- what comes out is told with the word value -/
def outQ (Q : VK) : VK := fun v H2 => ([V.str "value", v] : List V).length ≤ sizeLine ∧ ∀ p, H2 p = none → Q (.ref p) (upd H2 p (.tup [.str "value", v]))
theorem takes_len {X : Cx} {W : WX} (t : Takes X W) : Takes X (fun c d σ H => σ.length = X.N.length → W c d σ H) := fun u s' ⟨a, B, sI, pins, σ, H, cls, d, e, I, nb, up, sky, na, os, ag, w⟩ =>
  t u s' ⟨a, B, sI, pins, σ, H, cls, d, e, I, nb, up, sky, na, os, ag, w I.len⟩
/-- _law_outcome(e), e a lambda of this def -/
theorem pe_outA {X : Cx} {fO CE e0 e1 e2 e3 e4 e5 e6 e7 e8 : Addr} {fdO : FuncData} {k : Nat} {tl : TE} {e : Expr} {p pos : Pos}
    (F : Fun X.K "_law_outcome" "_law_outcome" sOutcome fO fdO) (at_ : X.mg "_law_outcome" = some (.ref fO)) (kp : PySem.W.keepIn X.K (.ref fO) = true) (hb : Binds X.K fdO ["_law_call"] [])
    (hCE : X.mg "ChairError" = some (.ref CE)) (NG : Nine X.mg e0 e1 e2 e3 e4 e5 e6 e7 e8) (B : Bt X.mg) (hr : Room (k + 2) X.A) (hg : Gl X "_law_outcome") (hl : PE X e tl)
    (he : starEach [e] X.env = (false, eval e X.env) :: starEach [] X.env := by rfl) (hpl : (backTo pos (starEach [] X.env)).any (·.1) = false := by rfl) :
    PE X (.Call (.Name "_law_outcome" p) [e] [] pos) (fun σ H Q => tCons tl tNil σ H fun vs H1 => ∃ f, vs = [.ref f] ∧ CanAct X k σ f (OutA X.K CE e0 e1 e2 e3 e4 e5 e6 e7 e8 Q) H1 (outQ Q)) := by
  refine ⟨fun pins s σ H Q I ht0 => ?_⟩
  refine wpAny_Call_Name_kw (ld_glob I hg at_ ?_ (by decide))
  refine PySem.W.callWith_K (h₀ := X.base) I.ok.mod.kin kp (thn ((pa_cons hl pa_nil he).run pos pins s σ H _ I ht0) fun us z1 ⟨vs, H1, I1, r, f, ev, ht⟩ => ⟨I1.kIn, ?_⟩) he hpl
  subst ev
  obtain ⟨oc, od, kV, doc, pm, an, cdv, ct, osl, rfl, lk, hcdO⟩ := F.ex
  have rc : codeAny (model X.prog X.w) X.A (.call (.ref fO) ⟨us, []⟩) (CR CX0 X.stack X.prog X.w H1 z1 Q E0) z1 := by
    have bt := hb z1 us I1.kIn (by rw [List.append_nil, ← r.length]; rfl)
    rw [List.append_nil] at bt
    refine run_ofS (CX := CX0) (N := oN) (ps := ["_law_call"]) lk hcdO scOutcome hr I1.env0 bt r rfl fun hr' => ?_
    have hgl : Gl (cxOf CX0 X.prog X.w X.K X.mg X.base oN "_law_outcome" (defScope sOutcome) fO cdv X.A X.stack z1 H1 E0).nox "ChairError" := rfl
    suffices h : ∃ t, PSs (cxOf CX0 X.prog X.w X.K X.mg X.base oN "_law_outcome" (defScope sOutcome) fO cdv X.A X.stack z1 H1 E0).nox (defBody sOutcome) t ∧ t { nx := fun _ H' => Q .non H', rt := Q } (L2.start oN [.ref f]) H1 from let ⟨t, h1, h2⟩ := h; ⟨t, h1.nox, h2⟩
    refine ⟨_, pss_one (ps_try_as (i := 1) (X := (cxOf CX0 X.prog X.w X.K X.mg X.base oN "_law_outcome" (defScope sOutcome) fO cdv X.A X.stack z1 H1 E0).nox) (c := .ref CE)
      (tb := fun W D σ' H' => ∃ Ech : XK, (∀ cls d σ' H', σ'.length = 5 → Ech cls d H' → W cls d σ' H') ∧ σ'[0]? = some (some (.ref f)) ∧ CanAct X k σ f Ech H' (outQ D.rt))
      (ts := fun a cls d => hRdX X.K CE e0 e1 e2 e3 e4 e5 e6 e7 e8 a cls d)
      rfl rfl scOutcome.nd rfl rfl ⟨hgl, by decide, .inl hCE⟩ L2.takes0 (fun W pn xe tk _ => ?_) (fun a oe cls d pn hz hf => ⟨fun pz z σz Hz De Iz ⟨D, wd, ⟨_, b0, b1, b2, b3, b4, b5, b6, b7, b8, j, KA, FL⟩, h⟩ => (hand_any NG KA FL B hr' hz hf).run pz z σz Hz De Iz h⟩)), ?_⟩
    · refine ⟨fun pz z σz Hz D Iz ⟨Ech, hW, h1, h2⟩ => ?_⟩
      exact (pss_one (ps_ret (pe_tup (pa_cons pe_str (pa_cons (pe_can (CXg := CX0) (Eg := E0) (Ng := oN) (i := 0) (E := Ech) I1 (takes_len tk) (fun cls d σ' H' e hl => hW cls d σ' H' hl e) hr' rfl (.inl rfl)) pa_nil))))).run pz z σz Hz D Iz ⟨h1, h2⟩
    · refine ⟨OutA X.K CE e0 e1 e2 e3 e4 e5 e6 e7 e8 Q, fun cls d σ' H' h2 ⟨D, wd, r, e1, ki, e2, e3, e4⟩ => ⟨true, by rw [e1]; exact ki.1, fun _ a ha => ⟨D, wd, ki, e1, ?_, e2, r, e3, e4⟩, fun hb => (nomatch hb)⟩, rfl, ht⟩
      match σ', h2 with
      | [x0, x1, x2, x3, x4], _ => exact ⟨x0, x2, x3, x4, rfl⟩
  refine wpAny_call (codeAny_mono rc fun z s2 q => ?_)
  cases z with
  | error e => exact (show False from q).elim
  | ok fl =>
    cases fl with
    | ret u => exact I1.after q
    | next => exact q.elim
    | brk => exact q.elim
    | cont => exact q.elim
/-- _law_outcome(lambda: body), the lambda made on the spot -/
theorem pe_outM {X : Cx} {fO CE e0 e1 e2 e3 e4 e5 e6 e7 e8 c Pt : Addr} {fdO : FuncData} {k : Nat} {T : List (Addr × Str)} {params : Arguments} {body : Expr} {scope : Scope} {tb : XK → TE} {p pos posL : Pos}
    (F : Fun X.K "_law_outcome" "_law_outcome" sOutcome fO fdO) (at_ : X.mg "_law_outcome" = some (.ref fO)) (kp : PySem.W.keepIn X.K (.ref fO) = true) (hb : Binds X.K fdO ["_law_call"] [])
    (hCE : X.mg "ChairError" = some (.ref CE)) (NG : Nine X.mg e0 e1 e2 e3 e4 e5 e6 e7 e8) (B : Bt X.mg) (hr : Room (k + 2) X.A) (hg : Gl X "_law_outcome")
    (TB : TabB X.base X.mg c Pt) (hcode : X.env.code = .ref c) (hm : (Pt, X.env.qual ++ "<lambda>") ∈ T) (hu : ∀ p ∈ T, p.1 = Pt → p.2 = X.env.qual ++ "<lambda>") (hdef : defaultsOf params X.env = ([], [])) (hkw : params.kwonlyargs = [])
    (L : LamN X.N X.env.scope scope) (hb0 : ∀ (q : Str) (cl : List (Str × Addr)) (pm cv ctv : Value), bindArgs (laFn q params body scope cl pm .none cv ctv) ⟨[], []⟩ = pure [])
    (hbody : ∀ (E : XK) (f : Addr) (A : Around) (outer : List Env) (s : Shared) (H : Hp) (c' : Addr), Room k (A.deeper (lamEnv X scope s.heap.objs.size f c')) → PE (lamCx X A outer s H E scope f c') body (tb E)) :
    PE X (.Call (.Name "_law_outcome" p) [.Lambda params body scope posL] [] pos) (fun σ H Q => Tabs T H ∧ ∀ f H1, H f = none → ExtN H H1 → Tabs T H1 → tb (OutA X.K CE e0 e1 e2 e3 e4 e5 e6 e7 e8 Q) σ H1 (outQ Q)) :=
  ⟨fun pins s σ H Q I h => (pe_outA F at_ kp hb hCE NG B hr hg (pe_lam0 TB hcode hm hu hdef hkw fun ok => L.has ok)).run pins s σ H Q I
    ⟨h.1, fun f H1 hn xt1 t1 la => ⟨f, rfl, params, body, scope, [], tb (OutA X.K CE e0 e1 e2 e3 e4 e5 e6 e7 e8 Q), la, L, .inl ⟨rfl, hb0⟩, fun _ => hb0, hbody _ f, h.2 f H1 hn xt1 t1⟩⟩⟩
end Cc

/-! A class over ValueError called with nothing but one keyword: BaseException.__new__ takes it and drops it, then the class's own __init__ has it. -/
namespace PySem
namespace EiX
open Builtin Builtin.ObjectAttr PySem.HandSPX
/-- the written parts of a class over ValueError -/
structure Parts where
  (nm q : Str)
  ns : Addr
  (bs bm sub : List Value)
  hd : Bool
  sn : List Str
  ab : Bool
  col : Option Bool
  dd : Option Addr
  (k0 k1 k2 k3 k5 : Option Value)
/-- at C: that class -/
abbrev Parts.at (p : Parts) (h : Heap) (C : Addr) : Prop := h.get? C = some (excClassObj p.nm p.q C p.ns p.bs p.bm p.hd p.sn p.sub p.ab p.col p.dd p.k0 p.k1 p.k2 p.k3 p.k5 "ValueError.__new__")
theorem Parts.has {p : Parts} (ve : refsVE p.bm = true) {C : Addr} {t : String} {b : Bool} (e : veTail.contains (.type t) = b) : (Value.ref C :: p.bm).contains (.type t) = b := by
  rw [List.contains_cons, refsVE_contains t p.bm ve, e]
  cases b <;> rfl
section
variable {prog : Program} {w : World} {M : Model} {A : Around} {Er : Value → Shared → Prop} {R : Result → Shared → Prop} {h : Heap} {gn : Array GenState} {dw : Drawn} {tn : Nat} {sys : OsState} {C fI : Addr} {p : Parts} {fld : Str} {v : Value}
/-- the row of __new__ lets a keyword pass -/
theorem new_lets (ve : refsVE p.bm = true) (cl : p.at h C) {Q : Unit → Shared → Prop} (q : Q () ⟨h, gn, dw, tn, sys⟩) : wpAny M A (checkBuiltinCall "ValueError.__new__" ⟨[.ref C], [(fld, v)]⟩) Q Er ⟨h, gn, dw, tn, sys⟩ := by
  have over : (Value.ref C :: p.bm).contains (.type "ValueError") = true := Parts.has ve (by decide +kernel)
  have star := F.excBase_ValueError.noStar
  simp only [checkBuiltinCall, F.excBase_ValueError.newKind, F.excBase_ValueError.newSplit, F.excBase_ValueError.newRow]
  repeat (first
    | refine wpAny_loadPart_at cl ?_
    | (refine wpAny_isSubtype_exc cl ?_; rw [over])
    | refine wpAny_staticBase_exc cl ?_
    | refine wpAny_madeBy_exc cl ?_
    | simp only [bne_self_eq_false, Bool.false_eq_true, if_false]
    | wp_step)
  exact q
/-- so does type.__call__'s -/
theorem call_lets (cl : p.at h C) {Q : Unit → Shared → Prop} (q : Q () ⟨h, gn, dw, tn, sys⟩) : wpAny M A (checkBuiltinCall "type.__call__" ⟨[.ref C], [(fld, v)]⟩) Q Er ⟨h, gn, dw, tn, sys⟩ := by
  have under := tc_sub
  have ty : (⟨h, gn, dw, tn, sys⟩ : Shared).TypeIs (.ref C) "type" := ⟨_, cl, rfl⟩
  simp only [checkBuiltinCall, tc_split, tc_kind]
  repeat (any_goals (first
    | assumption
    | with_reducible refine wpAny_loadPart_at cl ?_
    | with_reducible refine wpAny_onRaise ?_
    | with_reducible refine wpAny_map ?_
    | wp_step))
/-- the heap with the empty args and the new exception -/
abbrev fresh2 (h : Heap) (C : Addr) : Heap := (h.push (W.kdv_tup [])).push (excO C h.objs.size)
/-- ValueError.__new__(C, fld = v) -/
theorem new_run (ve : refsVE p.bm = true) (cl : p.at h C) (q : R (.ok (.ret (.ref (h.objs.size + 1)))) ⟨fresh2 h C, gn, dw, tn, sys⟩) : codeAny (model prog w) A (.builtin "ValueError.__new__" ⟨[.ref C], [(fld, v)]⟩) R ⟨h, gn, dw, tn, sys⟩ := by
  have ends := F.excBase_ValueError.ends
  have few : ([] : List Value).length ≤ sizeLine := Nat.zero_le _
  have c1 : (Value.ref C :: p.bm).contains (.type "ValueError") = true := Parts.has ve (by decide +kernel)
  have c2 : (Value.ref C :: p.bm).contains (.type "AttributeError") = false := Parts.has ve (by decide +kernel)
  have c3 : (Value.ref C :: p.bm).contains (.type "NameError") = false := Parts.has ve (by decide +kernel)
  refine codeAny_builtinAt F.excBase_ValueError.entry ?_; unfold Builtin.«BaseException.__new__»; refine wpAt_bind ?_
  show wpAt _ _ _ (stack >>= fun _ => _) _ _ _
  refine wpAt_bind (wpAt_stack fun _ below => wpAt_of_wpAny ?_); wp_walk
  refine wpAt_of_wpAny ?_; rw [F.excBase_ValueError.owner]
  repeat (first
    | with_reducible refine wpAny_madeHere_exc F.excBase_ValueError.canon cl ?_
    | with_reducible refine wpAny_loadPart_at cl ?_
    | (with_reducible refine wpAny_isSubtype_exc cl ?_; first | rw [c1] | rw [c2] | rw [c3])
    | wp_step)
  show R _ _; rw [Heap.size_push]; exact q
/-- what __init__ gave back -/
def Given (Q : Fin → Shared → Prop) (Er : Value → Shared → Prop) (x : Addr) : Result → Shared → Prop := fun r s' => match r with
  | .ok (.ret u) => u = .none ∧ Q (.done (.ret (.ref x))) s'
  | .ok _ => False
  | .error e => Er e s'
theorem type_run (ve : refsVE p.bm = true) (cl : p.at h C) (li : W.Looks (model prog w) h (typeLookup (.ref C) "__init__") (some (.ref fI))) (lb : ∀ x, W.Looks (model prog w) h (bindSpecial (.ref fI) x) (.ref fI, [x])) {Q : Fin → Shared → Prop}
    (q : codeAny (model prog w) A (.call (.ref fI) ⟨[.ref (h.objs.size + 1)], [(fld, v)]⟩) (Given Q Er (h.objs.size + 1)) ⟨fresh2 h C, gn, dw, tn, sys⟩) :
    wpAny (model prog w) A (Builtin.«type.__call__» ⟨[.ref C], [(fld, v)]⟩) Q Er ⟨h, gn, dw, tn, sys⟩ := by
  repeat (first | with_reducible refine wpAny_loadPart_at cl ?_ | with_reducible refine wpAny_madeBy_exc cl ?_ | wp_step)
  refine codeAny_call_builtin_code (Code.quiet_builtin _ F.excBase_ValueError.quiet) (new_lets ve cl (new_run ve cl ?_))
  show wpAny _ _ _ _ _ _
  have up : ∀ b o, h.get? b = some o → (fresh2 h C).get? b = some o := fun b o e => Heap.get?_push_of_some _ (Heap.get?_push_of_some _ e)
  have cl2 : p.at (fresh2 h C) C := up _ _ cl
  have new2 : (fresh2 h C).get? (h.objs.size + 1) = some (excO C h.objs.size) := by heap_get
  have own : (Value.ref C :: p.bm).contains (.ref C) = true := by simp
  have li2 := li.keeps up; have lb2 := (lb (.ref (h.objs.size + 1))).keeps up
  unfold isInstance
  repeat (first | with_reducible refine wpAny_loadPart_at new2 ?_ | (with_reducible refine wpAny_isSubtype_exc cl2 ?_; rw [own]) | wp_step)
  show wpAny _ _ (typeLookup (.ref C) _) _ _ _; refine li2.at (wpAny_holding (wpAny_bind (lb2.at (wpAny_bind (wpAny_call (codeAny_mono q fun r s' z => ?_))))))
  match r, z with
  | .error _, z => exact z
  | .ok (.ret _), ⟨e, z⟩ =>
    subst e
    first | exact wpAny_pure (wpAny_pure z) | (wp_walk; exact z)
/-- C(fld = v) -/
theorem made_run (ve : refsVE p.bm = true) (cl : p.at h C) (li : W.Looks (model prog w) h (typeLookup (.ref C) "__init__") (some (.ref fI))) (lb : ∀ x, W.Looks (model prog w) h (bindSpecial (.ref fI) x) (.ref fI, [x]))
    (q : codeAny (model prog w) (A.under (.builtin "type.__call__" ⟨[.ref C], [(fld, v)]⟩)) (.call (.ref fI) ⟨[.ref (h.objs.size + 1)], [(fld, v)]⟩) (W.InitBack (h.objs.size + 1) R) ⟨fresh2 h C, gn, dw, tn, sys⟩) :
    codeAny (model prog w) A (.call (.ref C) ⟨[], [(fld, v)]⟩) R ⟨h, gn, dw, tn, sys⟩ := by
  have l1 := tc_lookup; have l2 := tc_bind (.ref C)
  have ty : (⟨h, gn, dw, tn, sys⟩ : Shared).TypeIs (.ref C) "type" := ⟨_, cl, rfl⟩
  refine codeAny_of_tree (show wpAny _ _ (callAny (.ref C) _) _ _ _ from ?_)
  repeat (any_goals (first | assumption | with_reducible refine wpAny_loadPart_at cl ?_ | wp_step))
  refine ⟨rfl, codeAny_call_builtin_at (Code.quiet_builtin _ (by decide +kernel)) entry_typeCall (call_lets cl (type_run ve cl li lb (codeAny_mono q fun r s' z => ?_)))⟩
  match r, z with
  | .error _, z => exact z
  | .ok (.ret _), z => exact z
end
end EiX
end PySem

/-! The __init__ of an own error: super().__init__(f'.. {index} ..'); self.index = index. -/
namespace PySem
namespace EiX
open PySem.W PySem.Calls PyProof.Rows PySem.HandSPX
def iA (p1 p2 : Pos) : Arguments := { posonlyargs := [], args := [{ arg := "self", annotation := none, pos := p1 }], vararg := none, kwonlyargs := [{ arg := "index", annotation := none, pos := p2 }], kw_defaults := [none], kwarg := none, defaults := [] }
def iB (t1 t2 : Str) (a1 a2 a3 a4 a5 a6 a7 a8 a9 a10 b1 b2 b3 b4 : Pos) : List Stmt := [
  .Expr (.Call (.Attribute (.Call (.Name "super" a1) [] [] a2) "__init__" a3) [.JoinedStr [.Constant (.str t1) 0 a4, .FormattedValue (.Name "index" a5) (-1) none a6, .Constant (.str t2) 0 a7] a8] [] a9) a10,
  .Assign [.Attribute (.Name "self" b1) "index" b2] (.Name "index" b3) b4]
def iS : Scope := { kind := .function, names := [(PySem.Str.ofString "self", .local), (PySem.Str.ofString "index", .local), (PySem.Str.ofString "__class__", .free), (PySem.Str.ofString "super", .globalImplicit)], isGenerator := false, isCoroutine := false, more := [] }
/-- what is asked of such a class, at C, and of its __init__, at fI -/
structure EiTxt (P : Program) (K : Frag) (mg : Str → Option Value) (x : Str) (C fI : Addr) : Prop where
  at_ : mg x = some (.ref C)
  (kp : keepIn K (.ref C) = true)
  cls : ∃ nm q N bs bm sn sub ab col dd k0 k1 k2 k3 k5, K.lookup C = some (excClassObj nm q C N bs bm true sn sub ab col dd k0 k1 k2 k3 k5 "ValueError.__new__") ∧ refsVE bm = true
  sa : findIn K (.ref C) "__setattr__" = some (some (.builtin "object.__setattr__"))
  noN : findIn K (.ref C) "index" = some none
  iC : findIn K (.ref C) "__init__" = some (some (.ref fI))
  tC : typeIn K (.ref fI) = some (.type "function")
  sub : subIn K (.ref C) (.type "BaseException") = some true
  ty : typeIn K (.ref C) = some (.type "type")
  sve : subIn K (.ref C) (.type "ValueError") = some true
  sup : ks_superIn K C C "__init__" = some (some (.builtin "ValueError.__init__"))
  opq : nsIn K cStatics "thirdparty.any" = some none
  nsu : mg "super" = none
  htop : (P.main.scope.names.lookup ("super" : Str)).isSome = false
  fn : ∃ (cc cda : Addr) (oc : Value) (od : Option Addr) (kV doc pm : Value) (an : Option Addr) (ct : Value) (osl : Array (Option Value)) (qual t1 t2 : Str) (p1 p2 a1 a2 a3 a4 a5 a6 a7 a8 a9 a10 b1 b2 b3 b4 : Pos) (cl ccl : Value) (cld cdd : Option Addr) (csl ccs : Array (Option Value)) (vs : Array Value) (file : Str) (tf : Tok),
    K.lookup fI = some ⟨oc, od, .func (ksFn "__init__" qual (iA p1 p2) (iB t1 t2 a1 a2 a3 a4 a5 a6 a7 a8 a9 a10 b1 b2 b3 b4) iS .none kV doc pm an (.ref cda) ct cc), osl⟩ ∧ codeIn K (.ref cda) qual = true ∧
    K.lookup cc = some ⟨cl, cld, .cell (some (.ref C)), csl⟩ ∧ K.lookup cda = some ⟨ccl, cdd, .fields vs, ccs⟩ ∧ vs[2]? = some (.str file tf) ∧ ((P.main.file : Str) == file) = true ∧ t1.length ≤ 1000 ∧ t2.length ≤ 1000 ∧ (a3.endLine == a9.line) = true
/-- what __init__ leaves of a fresh exception at x -/
structure InitEnd (h h' : Heap) (x C dx : Addr) (v : Value) : Prop where
  keep : ∀ b o, b ≠ x → h.get? b = some o → h'.get? b = some o
  obj : ∃ t1 : Addr, h'.get? x = some { cls := .ref C, dict := some dx, data := .fields #[.ref t1, .none, .none, .none, .bool false, .none] }
  dbig : h.objs.size ≤ dx
  dne : dx ≠ x
  ns : h'.Ns1 dx (fun y => if y = "index" then some v else none)
theorem ldC {M : Model} {s : Shared} {env : Env} {m : Str → Option Value} {x : Str} {pos : Pos} {v : Value} {Q : Value → Shared → Prop} {A : Around} {E : Value → Shared → Prop} (hn : s.heap.Ns env.locals m) (hv : m x = some v) (h : Q v s)
    (hk : env.scope.kind = .function := by rfl) (hl : env.kindOf x = some .local := by rfl) (hd : (x == ("__debug__" : Str)) = false := by decide) :
    wpAny M A (eval (.Name x pos) env) Q E s := wpAny_Name (wpAny_loadName_local hk hl hn hv h) hd
/-- super().__init__ bound to the new exception, called -/
theorem call_mw {prog : Program} {w : World} {A : Around} {Er : Value → Shared → Prop} {h : Heap} {gn : Array GenState} {dw : Drawn} {tn : Nat} {sys : OsState} {C u e t0 : Addr} {p : Parts} {rest : List Value} {Q : Value → Shared → Prop}
    (cl : p.at h C) (he : h.get? e = some (excO C t0)) (hu : h.get? u = some (kxs_mw "ValueError.__init__" e)) (hrest : rest.length ≤ sizeLine)
    (hq : ∀ h' t1, (∀ b o, b ≠ e → h.get? b = some o → h'.get? b = some o) → h'.get? e = some (excO C t1) → Q .none ⟨h', gn, dw, tn, sys⟩) :
    wpAny (model prog w) A (call (.ref u) rest) Q Er ⟨h, gn, dw, tn, sys⟩ := by
  have isW : (Value.type "method-wrapper" == Value.type "method" || Value.type "method-wrapper" == Value.type "builtin_function_or_method" || Value.type "method-wrapper" == Value.type "method-wrapper") = true := by decide
  refine wpAny_call (codeAny_of_tree (show wpAny _ A.in1 (callAny (.ref u) ⟨rest, []⟩) _ _ _ from ?_))
  simp only [callAny]; refine wpAny_bind (wpAny_load hu ?_); simp only [kxs_mw, isW, if_true]
  refine KFB.if_so (by decide) (wpAny_bind (check_bound_init F.excBase_ValueError.toExcCallFacts cl he rfl (wpAny_bind (wpAny_pure (wpAny_pure ⟨plainId_quiet F.excBase_ValueError.init.plain _, codeAny_builtin F.excBase_ValueError.initEntry ?_⟩)))))
  exact exc_init_tree (cls := .ref C) (t0 := t0) (dv := none) (c2 := .none) (c3 := .none) (b4 := .bool false) he hrest fun h' k e' t' => hq h' _ k e'
theorem mc_eq {ob : Expr} {nme : Str} {vs : List Expr} {a3 a8 a9 : Pos} {env : Env} (hl : (a3.endLine == a9.line) = true) : eval (.Call (.Attribute ob nme a3) [.JoinedStr vs a8] [] a9) env = (do
    let ov ← attributeBase ob nme env (eval ob env)
    standAt a3.atName
    let (f, first) ← holding [ov] (getMethod ov nme (do return (← importBound ob env).getD true))
    callWith a9 f first (backTo a9 (starEach [.JoinedStr vs a8] env)) []) := by
  rw [arm_eval_Call]
  have e : methodCallForm (([Expr.JoinedStr vs a8] : List Expr).length + ([] : List Keyword).length) (backTo a9 (starEach [.JoinedStr vs a8] env)) (backToKw a9 (keywordEach [] env)) = true := by rfl
  unfold methodCall
  rw [e]
  unfold calleeOf methodCallPos
  rw [hl]
  rfl
theorem log_small {i : Int} (h0 : -(2 ^ 64) < i) (h1 : i < 2 ^ 64) : i.natAbs.log2 < 1920 := Cc.log_small h0 h1
theorem text_bound {i : Int} (h0 : -(2 ^ 64) < i) (h1 : i < 2 ^ 64) : (Str.ofString (toString i)).length ≤ 2000 := by
  have e := int_text_length_le (k := 1920) (by decide) (log_small h0 h1)
  rw [PySem.ofString_length]
  omega
theorem empty_len : Str.empty.length = 0 := by decide +kernel
section
variable {prog : Program} {w : World} {A : Around} {R : Result → Shared → Prop} {s : Shared} {K : Frag} {mg mb : Str → Option Value} {X : Str} {C fI : Addr}
theorem idx_init (T : EiTxt prog K mg X C fI) {x t0 : Addr} {i : Int} {tk0 : Tok} (KX : K.In s.heap) (hlim : s.heap.NoLimit) (hg : s.heap.Ns mainGlobals mg) (hb : s.heap.Ns builtinsNs mb) (hsu : mb "super" = some (.type "super"))
    (hx : s.heap.get? x = some (excO C t0)) (hnx : K.lookup x = none) (hroom : A.depth < recursionLimit) (hi : -(2 ^ 64) < i ∧ i < 2 ^ 64)
    (hq : ∀ h' tk dx, InitEnd s.heap h' x C dx (.int i tk0) → R (.ok (.ret .none)) { s with heap := h', toks := tk }) :
    codeAny (model prog w) A (.call (.ref fI) ⟨[.ref x], [("index", .int i tk0)]⟩) R s := by
  obtain ⟨cc, cda, oc, od, kV, doc, pm, an, ct, osl, qual, t1, t2, p1, p2, a1, a2, a3, a4, a5, a6, a7, a8, a9, a10, b1, b2, b3, b4, cl, ccl, cld, cdd, csl, ccs, vs, file, tf, ho, hcd, hcc, hcda, hvs, hfile, l1, l2, hln⟩ := T.fn
  obtain ⟨nm, q, N, bs, bm, sn, sub, ab, col, dd, k0, k1, k2, k3, k5, hC, hbm⟩ := T.cls
  have hcl : clsIn K C = some { name := nm, bases := bs, mro := .ref C :: bm, ns := N, qualname := q, hasDict := true, slotNames := sn, subclasses := sub, abstract := ab, collection := col, hasDel := false } := by unfold clsIn; rw [hC] <;> rfl
  have hmro : mroIn K C (.ref C) = some true := by
    unfold mroIn
    rw [hcl, Option.bind_some, if_neg (show ¬ (List.isEmpty (Value.ref C :: bm) = true) from Bool.false_ne_true)]
    simp
  have hxC : x ≠ C := fun z => by rw [z, hC] at hnx; cases hnx
  refine ks_codeAny_call_defAt (fd := ksFn "__init__" qual (iA p1 p2) (iB t1 t2 a1 a2 a3 a4 a5 a6 a7 a8 a9 a10 b1 b2 b3 b4) iS .none kV doc pm an (.ref cda) ct cc) (body := iB t1 t2 a1 a2 a3 a4 a5 a6 a7 a8 a9 a10 b1 b2 b3 b4) (binds := [("self", .ref x), ("index", .int i tk0)])
    hroom (KX _ _ ho) rfl hlim (codeRec_of KX hcd) rfl (BindsTo.of_eq (by first | rfl | with_unfolding_all rfl)) (show ∀ y ∈ iS.names, y.2 ≠ .cell by decide) (fun y hy => ?_) (fun h₀ hns hk => ?_)
  · rcases (List.mem_cons.mp hy) with rfl | hy
    · rfl
    · rw [List.mem_singleton.mp hy]
      rfl
  · have KX₀ : K.In h₀ := KX.keeps hk
    have hns' := hns
    have hself : ([("self", .ref x), ("index", .int i tk0)] : List (Str × Value)).reverse.lookup ("self" : Str) = some (Value.ref x) := by first | rfl | with_unfolding_all rfl | kernel_rfl
    have hidx : ([("self", .ref x), ("index", .int i tk0)] : List (Str × Value)).reverse.lookup ("index" : Str) = some (Value.int i tk0) := by first | rfl | with_unfolding_all rfl | kernel_rfl
    refine ks_wpAt_execs_cons (ks_wpAt_Expr_any (ks_wpAt_MethodCall ?_ (mc_eq hln)))
    refine ks_wpAt_super_base (f := fI) (cc := cda) (of := _) (oc := _) (vs := vs) (file := file) (tf := tf) rfl rfl (by decide) rfl (KX₀ _ _ ho) rfl rfl rfl (KX₀ _ _ hcda) rfl hvs hfile T.htop ?_
    refine ks_loadName_global rfl rfl (loadGlobal_builtin (hg.keeps hk) T.nsu (hb.keeps hk) hsu ⟨rfl, ?_⟩)
    refine wpAny_loadName_free rfl rfl rfl ⟨_, KX₀ _ _ hcc, rfl⟩ ?_
    refine wpAny_loadName_local rfl rfl hns hself ?_
    refine ks_wpAny_isType_cls (KX₀ _ _ hC) rfl ⟨rfl, ?_⟩
    refine ks_wpAny_call_super (KX₀ _ _ hC) rfl (hk _ _ hx) rfl (fun c z => nomatch z) (looks_mroIn KX₀ hmro) (fun h₁ e₁ kk₁ => ?_)
    have KX₁ : K.In h₁ := KX₀.keeps kk₁
    have hx₁ : h₁.get? x = some (excO C t0) := kk₁ _ _ (hk _ _ hx)
    have I₁ : InstAt h₁ x (excO C t0) C none := ⟨hx₁, rfl, rfl, trivial⟩
    have hso := e₁
    have hIV : Looks (model prog w) h₁ (isInstance (.ref x) (.type "ValueError")) true := I₁.type.andThen (looks_subIn KX₁ T.sve)
    have hsup : alongIn K "__init__" (((Value.ref C :: bm).dropWhile (· != .ref C)).drop 1) = some (some (.builtin "ValueError.__init__")) := by
      have z := T.sup
      unfold ks_superIn at z
      rw [hcl] at z
      exact z
    refine kxs_getMethod kxs_ValueError hso (looks_opaque KX₁ T.opq) (l₀ := .ref C :: bm) (fun A Q E s k q => wpAny_bind ((looks_clsIn KX₁ hcl) A _ E s k (wpAny_pure q))) rfl KX₁ hsup hIV hxC (by decide) ?_
    have k₂ : ∀ b o, h₁.get? b = some o → (h₁.push (kxs_mw "ValueError.__init__" x)).get? b = some o := fun b o e => Heap.get?_push_of_some _ e
    refine kxs_callWith (i := "ValueError.__init__") (x := x) rfl (evalArgs_plain (spliced_cons ?_))
    have li := text_bound hi.1 hi.2
    refine JoinedStr_many (pos := a8) (joinParts_cons ?_)
    refine wpAny_Constant_str (k := 0) (pos := a4) ⟨?_, joinParts_cons ?_⟩
    · simp only [Str.length_append, sizeLine_eq, empty_len]
      omega
    refine FormattedValue_plain (pos := a6) (ldC (pos := a5) (hns.keeps fun b o e => k₂ b o (kk₁ b o e)) hidx (formatField_int_small (log_small hi.1 hi.2) ⟨?_, joinParts_cons ?_⟩))
    · simp only [Str.length_append, sizeLine_eq, empty_len]
      omega
    refine wpAny_Constant_str (k := 0) (pos := a7) ⟨?_, joinParts_nil ?_ ?_⟩
    · simp only [Str.length_append, sizeLine_eq, empty_len]
      omega
    · refine spliced_nil ⟨Heap.get?_push_at rfl rfl, ?_⟩
      refine call_mw (p := ⟨nm, q, N, bs, bm, sub, true, sn, ab, col, dd, k0, k1, k2, k3, k5⟩) (k₂ _ _ (KX₁ _ _ hC)) (k₂ _ _ hx₁) (Heap.get?_push_at rfl rfl) (by show 1 ≤ sizeLine; rw [sizeLine_eq]; decide) (fun h₃ t3 k₃ hx₃ => ?_)
      have kk : ∀ b o, b ≠ x → s.heap.get? b = some o → h₃.get? b = some o := fun b o hb e => k₃ b o hb (k₂ b o (kk₁ b o (hk b o e)))
      have KX₃ : K.In h₃ := fun b o e => kk b o (fun z => by rw [z] at e; rw [e] at hnx; cases hnx) (KX b o e)
      have hLx : s.heap.objs.size ≠ x := Nat.ne_of_gt (Heap.lt_size hx)
      obtain ⟨oL, esL, epL, hoL, rL⟩ := hns
      have hns₃ : h₃.Ns s.heap.objs.size (fun y => ([("self", .ref x), ("index", .int i tk0)] : List (Str × Value)).reverse.lookup y) := ⟨oL, esL, epL, k₃ _ _ hLx (k₂ _ _ (kk₁ _ _ hoL)), rL⟩
      refine ks_wpAt_execs_cons (wpAt_of_wpAny (plainObj_wpAny_Assign_Attribute ?_))
      refine ldC hns₃ hidx (ldC hns₃ hself ?_)
      refine set_plain KX₃ (ox := excO C t3) (od := none) ⟨hx₃, rfl, rfl, trivial⟩ T.sa ?_
      refine exc_osa KX₃ hx₃ hcl (show refsVE (.ref C :: bm) = true from hbm) rfl T.noN (fun h₄ tk₄ dx k₄ dn dne hx₄ hn₄ => ?_)
      refine wpAt_of_wpAny (wpAny_execs_nil (hq h₄ tk₄ dx ⟨fun b o hb e => k₄ b o hb (kk b o hb e), ⟨_, hx₄⟩, ?_, dne, hn₄⟩))
      have z : s.heap.objs.size < h₃.objs.size := Heap.lt_size (k₃ _ _ hLx (k₂ _ _ (kk₁ _ _ hoL)))
      exact Nat.le_of_lt (Nat.lt_of_lt_of_le z dn)
    · simp only [Str.length_append, sizeLine_eq, empty_len]
      omega
end
end EiX
end PySem

/-! X(index = e), an own error made. -/
namespace PySem
namespace EiX
open PySem.W PySem.Calls PyProof.Rows PySem.HandSPX
/-- a made error -/
structure OwnMade (h h' : Heap) (e C d : Addr) (v : Value) : Prop where
  keep : ∀ b o, h.get? b = some o → h'.get? b = some o
  new : h.objs.size ≤ e
  obj : ∃ oe vs, h'.get? e = some oe ∧ oe.cls = .ref C ∧ oe.dict = some d ∧ oe.data = .fields vs ∧ vs[1]? = some .none
  dbig : h.objs.size ≤ d
  dne : d ≠ e
  ns : h'.Ns1 d (fun y => if y = "index" then some v else none)
  ctx : ∀ oe vs, h'.get? e = some oe → oe.data = .fields vs → vs[2]? = some .none
section
variable {prog : Program} {w : World} {A : Around} {R : Result → Shared → Prop} {s : Shared} {K : Frag} {mg mb : Str → Option Value} {X : Str} {C fI : Addr}
theorem idx_made (T : EiTxt prog K mg X C fI) {i : Int} {tk0 : Tok} (KX : K.In s.heap) (hlim : s.heap.NoLimit) (hg : s.heap.Ns mainGlobals mg) (hb : s.heap.Ns builtinsNs mb) (hsu : mb "super" = some (.type "super")) (hroom : A.depth + 1 < recursionLimit) (hi : -(2 ^ 64) < i ∧ i < 2 ^ 64)
    (hq : ∀ h' tk e d, OwnMade s.heap h' e C d (.int i tk0) → R (.ok (.ret (.ref e))) { s with heap := h', toks := tk }) :
    codeAny (model prog w) A (.call (.ref C) ⟨[], [("index", .int i tk0)]⟩) R s := by
  obtain ⟨nm, q, N, bs, bm, sn, sub, ab, col, dd, k0, k1, k2, k3, k5, hC, hbm⟩ := T.cls
  obtain ⟨hp, g, dr, tk, os⟩ := s
  have k : ∀ b o, hp.get? b = some o → ((hp.push (kdv_tup [])).push (excO C hp.objs.size)).get? b = some o := fun b o e => Heap.get?_push_of_some _ (Heap.get?_push_of_some _ e)
  have hget : ((hp.push (kdv_tup [])).push (excO C hp.objs.size)).get? (hp.objs.size + 1) = some (excO C hp.objs.size) := by heap_get
  have hnx : K.lookup (hp.objs.size + 1) = none := by
    cases e : K.lookup (hp.objs.size + 1) with
    | none => rfl
    | some o =>
      have z : hp.get? (hp.objs.size + 1) = some o := KX _ _ e
      exact absurd (Nat.lt_of_succ_lt (Heap.lt_size z)) (Nat.lt_irrefl _)
  refine made_run (p := ⟨nm, q, N, bs, bm, sub, true, sn, ab, col, dd, k0, k1, k2, k3, k5⟩) hbm (KX _ _ hC) (looks_findIn KX T.iC) (fun self => bind_fn KX self T.tC) ?_
  refine idx_init (s := ⟨(hp.push (kdv_tup [])).push (excO C hp.objs.size), g, dr, tk, os⟩) T (KX.keeps k) (hlim.keeps k) (hg.keeps k) (hb.keeps k) hsu hget hnx ?_ hi fun h' tk' dx ⟨k', ⟨t1, hx⟩, dn, dne, hns⟩ => ?_
  · show A.depth + 1 < recursionLimit
    exact hroom
  · have old : ∀ b o, hp.get? b = some o → h'.get? b = some o := fun b o e => k' b o (Nat.ne_of_lt (Nat.lt_succ_of_lt (Heap.lt_size e))) (k b o e)
    have z : hp.objs.size + 1 + 1 ≤ dx := by
      first
        | (simpa only [Heap.size_push] using dn)
        | exact dn
        | (have q := dn; rw [Heap.size_push, Heap.size_push] at q; exact q)
    exact ⟨rfl, hq h' tk' (hp.objs.size + 1) dx ⟨old, Nat.le_succ _, ⟨_, _, hx, rfl, rfl, rfl, rfl⟩, Nat.le_trans (Nat.le_trans (Nat.le_succ _) (Nat.le_succ _)) z, dne, hns, fun oe vs q qd => by
      rw [hx] at q; cases q; cases qd; rfl⟩⟩
end
end EiX
end PySem
namespace Cc
open PySem PySem.Spec PyProof.Rows L2
theorem relO_idx {v : V} {v' : Value} (r : RelV v v') (f : Str) : RelO (List.lookup f [(("index" : Str), v)]) (if f = "index" then some v' else none) := by
  by_cases hw : f = "index"
  · subst hw
    rw [if_pos rfl]
    have q : List.lookup ("index" : Str) [(("index" : Str), v)] = some v := by simp [List.lookup]
    rw [q]
    exact r
  · rw [if_neg hw]
    have qw : (f == ("index" : Str)) = false := by simpa using hw
    have q2 : List.lookup f [(("index" : Str), v)] = none := by simp [List.lookup, qw]
    rw [q2]
    trivial
/-- X(index = e) -/
def tMkIdx (C : Addr) (ta : TA) : L2.St → Hp → XK → Prop := fun σ H Q => ta σ H fun vs H1 => ∃ i : Int, vs = [.int i] ∧ (-(2 ^ 64) < i ∧ i < 2 ^ 64) ∧ ∀ d, H1 d = none → Q (.ref C) (some d) (upd H1 d (.xd [(("index" : Str), .int i)]))
section
variable {X : Cx}
theorem pmk_idx {x : Str} {C fI : Addr} {e : Expr} {te : TE} {p kpos pos : Pos} {k : Nat} (T : PySem.EiX.EiTxt X.prog X.K X.mg x C fI) (hr : Room k X.A) (he : PE X e te) (hg : Gl X x) (hdb : (x == ("__debug__" : Str)) = false := by decide)
    (hall : (backToKw pos (keywordEach [⟨some "index", e, kpos⟩] X.env)).all (·.1.isSome) = true := by rfl) (hks : (backToKw pos (keywordEach [⟨some "index", e, kpos⟩] X.env)).filterMap (·.1) = [("index" : Str)] := by rfl)
    (hpl : ((backTo pos (starEach [] X.env)).any (·.1) || (backToKw pos (keywordEach [⟨some "index", e, kpos⟩] X.env)).any (·.1.isNone)) = false := by rfl) :
    PMk X (.Call (.Name x p) [] [⟨some "index", e, kpos⟩] pos) (tMkIdx C (tCons te tNil)) := by
  intro pins s σ H Q I h
  refine wpAny_Call_Name_kw (ld_glob I hg T.at_ ?_ hdb)
  refine PySem.W.callWith_KW0 (h₀ := X.base) I.ok.mod.kin T.kp hall ?_ hpl
  refine thn ((pk_cons he pk_nil).run pos pins s σ H _ I h) fun ws s1 ⟨vs, H1, I1, r1, i, ev, hi, q1⟩ => ⟨I1.kIn, ?_⟩
  subst ev
  rw [hks]
  cases r1 with
  | cons rv rn =>
    rename_i v' us'
    cases rn
    obtain ⟨tk0, rfl⟩ := rv
    show wpAny _ _ (call (.ref C) [] [("index", .int i tk0)]) _ _ _
    have hlim := I1.nolimit
    obtain ⟨mb, hb1, hb2⟩ := I1.mod.blt
    have G := I1.mod.glob.keeps I1.bk
    have B := hb1.keeps I1.bk
    obtain ⟨hp, g, dr, tk, os⟩ := s1
    refine wpAny_call (PySem.EiX.idx_made T I1.kIn hlim G B ((hb2 _ (by decide)).trans (by first | rfl | decide +kernel)) (by have := hr.dp; omega) hi fun h' tk' e d M => ?_)
    show MkP X pins σ Q (.ref e) ⟨h', g, dr, tk', os⟩
    obtain ⟨oe, fv, hoe, hc, hd, hdat, h1⟩ := M.obj
    have hns := M.ns
    obtain ⟨G', g1, g2⟩ := restrict h' fun b => decide (b ≠ e)
    have gk : ∀ b, b ≠ e → G'.get? b = h'.get? b := fun b hb => g1 b (decide_eq_true hb)
    have ge : G'.get? e = none := g2 e (by simp)
    have old : ∀ b o, hp.get? b = some o → G'.get? b = some o := fun b o q => (gk b (Nat.ne_of_lt (Nat.lt_of_lt_of_le (Heap.lt_size q) M.new))).trans (M.keep b o q)
    have ob : ObjOk X.prog X.w (upd H1 d (.xd [(("index" : Str), .int i)])) G' d (.xd [(("index" : Str), .int i)]) :=
      ⟨_, hns.at (fun o q => (gk d M.dne).trans q), fun f => relO_idx (v := .int i) (v' := .int i tk0) ⟨tk0, rfl⟩ f⟩
    have J : Inv X pins σ (upd H1 d (.xd [(("index" : Str), .int i)])) ⟨G', g, dr, tk', os⟩ := I1.laid (t' := tk') old M.dbig ob
    refine ⟨e, oe, fv, ⟨G', g, dr, tk', os⟩, _, .ref C, some d, rfl, J, fun b o q => ?_, ge, hoe, ⟨hc, hd⟩, hdat, h1, ?_, rfl, I1.bare, raises_own T.sub T.ty, q1 d (I1.hok.fresh M.dbig)⟩
    · by_cases hb : b = e
      · have q' : G'.get? b = some o := q
        rw [hb, ge] at q'; cases q'
      · exact (gk b hb).symm.trans q
    · rw [upd_ne (Ne.symm M.dne)]
      exact I1.hok.fresh M.new
end
end Cc

namespace Cc
open PySem PySem.Spec PyProof.Rows L2
/-- a step that a house with c chairs is too small for -/
def bigS (c : Int) : Stp → Prop
  | .turn => False
  | .meet _ n => c < n
/-- the first one -/
def FewAt (c : Int) (ss : List Stp) (i : Nat) : Prop := (∀ s ∈ ss.take i, ¬ bigS c s) ∧ ∃ b n, ss[i]? = some (.meet b n) ∧ c < n
/-- check_house of a house that is too small -/
def spHouseX (C CT : Addr) : Sp := fun vs H _ E => ∃ (p : Addr) (c : Int) (ss : List Stp), vs = [.ref p, .int c] ∧ PlanAt C H p ss ∧ 0 ≤ c ∧ c ≤ 1000000000000000000 ∧ (∃ s ∈ ss, bigS c s) ∧ ss.length ≤ 60 ∧
  ∀ i H' d, FewAt c ss i → Same H H' → H' d = none → E (.ref CT) (some d) (upd H' d (.xd [(("index" : Str), .int (i : Nat))]))
section
variable {P : Program} {w : World} {K : PySem.W.Frag} {mg : Str → Option Value} {base : Heap} {C TU pS gS : Addr} {mc : Value}
theorem ok_housex {f fN CT fI : Addr} {fd fdS : FuncData} (F : Fun K "check_house" "check_house" sChkHouse f fd) (T : Txt K mg C TU pS gS mc) (G : Gs P w K mg base C gS fdS) (N : Dn P w K mg base 2 "check_number" fN spChkNum) (X : PySem.EiX.EiTxt P K mg "TooFewChairs" CT fI) :
    FnOk P w K mg base (L2.CX P w) 3 f fd ["plan", "chairs"] (spHouseX C CT) := by
  refine F.okX scChkHouse (fun vs H Q E h => ?_) (fun cdv A outer s H vs Q E hr h => ?_)
  · obtain ⟨p, c, ss, rfl, _⟩ := h
    rfl
  · obtain ⟨p, c, ss, rfl, hp, h0, h1, hbig, hl, k⟩ := h
    obtain ⟨dx, tp, ws, e1, e2, e3⟩ := id hp
    obtain ⟨u, hu⟩ := T.con
    refine ⟨_, pss_cons (ps_expr (pe_callR N.ok hr rfl N.at_ N.kp pass0 (pa_cons (pv 1) (pa_cons pe_int (pa_cons (pe_con (pv 0) rfl) pa_nil)))))
      (pss_one (ps_for (passes_of rfl) rfl (pi_enumT (by rfl) T.b.enumerate (pa_cons (pe_prop (pv 0) T.cl T.pr G.ok hr G.b .nil pass0 rfl) pa_nil))
        (pg_tup rfl (pgs_cons (pg_name (i := 2) scChkHouse.nd rfl (.inl rfl)) (pgs_cons (pg_name (i := 3) scChkHouse.nd rfl (.inl rfl)) pgs_nil)))
        (pss_one (ps_if (PW.pt (pw_and (pt_cmpR op_eq (pe_callB call_len (by rfl) T.b.len PySem.boot_len (pa_cons (pv 3) pa_nil)) pe_int (nomark _))
          (pw_and1 (pt_cmpR op_gt (pe_ix ix_tup (pv 3) pe_int (fun _ _ => rfl)) (pv 1) (nomark _)))))
          (pss_one (ps_raise (W := fun cls d _ H => E cls d H) rfl (takes_of rfl rfl rfl rfl) (pmk_idx X hr (pv 2) rfl))) pss_nil)))), ?_⟩
    refine ⟨_, rfl, _, rfl, p, C, dx, _, _, u, rfl, e1, T.cl, hu, lk_no (by decide +kernel), c, 0, _, rfl, h0, h1, ?_⟩
    refine ⟨_, rfl, p, dx, _, rfl, e1, p, dx, _, _, rfl, e1, lk_self, tp, ws, rfl, e2.sq, ?_⟩
    refine for_it (walk_enumT (xs := ws)) (fun i σ H' => ∃ a b, σ = [some (.ref p), some (.int c), a, b] ∧ Same H H' ∧ ∀ s ∈ ss.take i, ¬ bigS c s) ⟨none, none, rfl, Same.refl H, fun s hs => by simp at hs⟩ (fun i σ H' _ ⟨_, _, _, s1, _⟩ => (e2.same s1).sq) ?_ ?_
    · rintro i x σ H1 H2 hi ⟨a, b, rfl, s1, nb⟩ ⟨q, y1, y2, rfl, n1, rfl, z1, z2⟩
      obtain ⟨st, hst, t, rfl, ht⟩ := e3.get z2
      have il : i < ss.length := (List.getElem?_eq_some_iff.mp hst).1
      have s2 : Same H (upd H1 q (.tup [y1, .ref t])) := s1.trans (same_upd n1)
      have ht2 := s2 _ _ ht
      have nb2 : ¬ bigS c st → ∀ s ∈ ss.take (i + 1), ¬ bigS c s := fun h s hs => by
        rw [take_more hst] at hs
        rcases List.mem_append.mp hs with m | m
        · exact nb s m
        · rw [List.mem_singleton.mp m]
          exact h
      refine ⟨q, _, rfl, SqT.of upd_same, rfl, _, _, rfl, _, _, rfl, rfl, ?_⟩
      refine ⟨_, rfl, _, _, rfl, .inr ⟨_, SqT.of ht2, rfl⟩, rfl, ?_⟩
      cases st with
      | turn =>
        refine ⟨_, rfl, ?_⟩
        refine iteF ?_
        exact iteF ⟨_, _, rfl, s2, nb2 id⟩
      | meet bb n =>
        refine ⟨_, rfl, iteT ⟨_, rfl, t, _, _, _, rfl, rfl, SqT.of ht2, at_of (j := 1) rfl rfl, _, rfl, _, _, rfl, rfl, _, rfl, ?_⟩⟩
        by_cases hc : c < n
        · rw [decide_eq_true hc]
          refine iteT ⟨_, rfl, (i : Int), by rw [← Option.some.inj z1], ⟨by omega, by omega⟩, fun d hd => k i _ d ⟨nb, bb, n, hst, hc⟩ s2 hd⟩
        · rw [decide_eq_false hc]
          exact iteF ⟨_, _, rfl, s2, nb2 hc⟩
    · rintro σ H' ⟨a, b, rfl, s1, nb⟩
      obtain ⟨s, hs, hb⟩ := hbig
      rw [e3.length, List.take_length] at nb
      exact (nb s hs hb).elim
end
end Cc

/-! Meetings and turns in a live house. -/
namespace Cc
open PySem PySem.Spec PyProof.Rows L2
def spChkMeet : Sp := fun vs H Q _ => ∃ (b : Bool) (n : Int), vs = [.str (roomS b), .int n] ∧ 0 ≤ n ∧ n ≤ 1000000000000000000 ∧ ∀ H', Same H H' → Q .non H'
def spChkMeetX (CB : Addr) : Sp := fun vs H _ E => ∃ (rm : Str) (n : Int), vs = [.str rm, .int n] ∧ (rm = "green" ∨ ((∃ b, rm = roomS b) ∧ ¬ (0 ≤ n ∧ n ≤ 1000000000000000000))) ∧ ∀ H', Same H H' → E (.ref CB) none H'
/-- both ways -/
def spChkMeetB (CB : Addr) : Sp := fun vs H Q E => spChkMeet vs H Q E ∨ spChkMeetX CB vs H Q E
def spMeet (CH CM : Addr) : Sp := fun vs H Q _ => ∃ (x m : Addr) (b : Bool) (c r mv n : Int) (t : Bool) (op e rv : V), vs = [.ref x, .str (roomS b), .int n] ∧ HouseIs CH CM H x c m op r mv t e rv ∧ 0 ≤ c ∧ c ≤ 1000000000000000000 ∧ 0 ≤ r ∧ r ≤ c ∧ 0 ≤ n ∧ n ≤ c ∧
  ∀ m' tp H', But x H H' → H' tp = some (.tup [.str "meet", .str (roomS b), .int n]) → HouseIs CH CM H' x c m' (.ref tp) (stepF c (.meet b n) r).1 (mv + (stepF c (.meet b n) r).2) t (.ref m) .non → Q (.int (stepF c (.meet b n) r).2) H'
def spTurn (CH CM TU : Addr) : Sp := fun vs H Q _ => ∃ (x m : Addr) (c r mv : Int) (t : Bool) (op e rv : V), vs = [.ref x] ∧ HouseIs CH CM H x c m op r mv t e rv ∧
  ∀ m' H', But x H H' → HouseIs CH CM H' x c m' (.ref TU) (c - r) (mv + 0) (t != true) (.ref m) .non → Q .non H'
def spMeetX (CH CM CB CE : Addr) : Sp := fun vs H _ E => ∃ (x m : Addr) (rm : Str) (c r mv n : Int) (t : Bool) (op e rv : V), vs = [.ref x, .str rm, .int n] ∧ HouseIs CH CM H x c m op r mv t e rv ∧
  ((rm = "green" ∨ ((∃ b, rm = roomS b) ∧ ¬ (0 ≤ n ∧ n ≤ 1000000000000000000))) ∧ (∀ H', Same H H' → E (.ref CB) none H') ∨ ((∃ b, rm = roomS b) ∧ 0 ≤ n ∧ n ≤ 1000000000000000000 ∧ c < n ∧ ∀ H', Same H H' → E (.ref CE) none H'))
section
variable {P : Program} {w : World} {K : PySem.W.Frag} {mg : Str → Option Value} {base : Heap} {C CH CM CB CE TU pS gS : Addr} {fdR fdB : FuncData} {mc : Value}
abbrev s_check_meeting : Stmt := top 22
abbrev n_check_meeting : List Str := ["room", "need"]
theorem sc_check_meeting : FnScope n_check_meeting ["room", "need"] (defScope s_check_meeting) := ⟨rfl, rfl, rfl, by decide +kernel, rfl, by decide +kernel, by decide +kernel⟩
theorem ok_check_meeting {f f_is_number : Addr} {fd : FuncData} (F : Fun K "check_meeting" "check_meeting" s_check_meeting f fd) (T : Txt K mg C TU pS gS mc) (D_is_number : Dn P w K mg base 1 "is_number" f_is_number spIsNum) : FnOk P w K mg base CX0 2 f fd ["room", "need"] spChkMeet := by
  refine F.ok sc_check_meeting (fun vs H Q E h => ?_) (fun cdv A outer s H vs Q E hr h => ?_)
  · obtain ⟨b, n, rfl, _⟩ := h
    rfl
  · obtain ⟨b, n, rfl, n0, n1, k⟩ := h
    obtain ⟨u, hu⟩ := T.cc
    refine ⟨_, pss_cons (ps_if (pt_cmpR op_notIn_seq (pv 0) (pe_tup (pa_cons pe_str (pa_cons pe_str pa_nil))) (by rfl))
        (pss_one ps_never) pss_nil)
      (pss_one (ps_if (pt_not (pt_val (pe_callR D_is_number.ok (hr.mono (by decide)) rfl D_is_number.at_ D_is_number.kp pass0 (pa_cons (pv 1) (pa_cons pe_int (pa_cons (ClX.pe_cval (pe_glob (v := .ref C) rfl T.gP rfl)) pa_nil))))))
        (pss_one ps_never) pss_nil)), ?_⟩
    refine ⟨_, rfl, by show 2 ≤ sizeLine; decide, fun l hl => ⟨l, _, rfl, .inr (SqT.of upd_same), rfl, rfl, _, rfl, ifF (by cases b <;> decide +kernel) ?_⟩⟩
    refine ⟨_, rfl, C, mc, _, u, rfl, T.rd, hu, n, 0, _, rfl, _, rfl, ?_⟩
    rw [decide_eq_true (show 0 ≤ n ∧ n ≤ 1000000000000000000 from ⟨n0, n1⟩)]
    exact iteF (k _ (same_upd hl))
theorem okx_check_meeting {f f_is_number : Addr} {fd : FuncData} (F : Fun K "check_meeting" "check_meeting" s_check_meeting f fd) (T : Txt K mg C TU pS gS mc) (D_is_number : Dn P w K mg base 1 "is_number" f_is_number spIsNum) (XB : Err K mg "InvalidBooking" CB) : FnOk P w K mg base (L2.CX P w) 2 f fd ["room", "need"] (spChkMeetX CB) := by
  refine F.okX sc_check_meeting (fun vs H Q E h => ?_) (fun cdv A outer s H vs Q E hr h => ?_)
  · obtain ⟨rm, n, rfl, _⟩ := h
    rfl
  · obtain ⟨rm, n, rfl, hbad, k⟩ := h
    obtain ⟨u, hu⟩ := T.cc
    obtain ⟨bmB, Bn, newId, initId, XB_F, XB_q⟩ := XB.ex
    refine ⟨_, pss_cons (ps_if (pt_cmpR op_notIn_seq (pv 0) (pe_tup (pa_cons pe_str (pa_cons pe_str pa_nil))) (by rfl))
        (pss_one (ps_raise (W := fun cls d _ H => E cls d H) rfl (takes_of rfl rfl rfl rfl) (pmk_any XB_F XB_q XB.at_ XB.kp (raises_own XB.sub XB.ty) rfl (pa_cons pe_str pa_nil)))) pss_nil)
      (pss_one (ps_if (pt_not (pt_val (pe_callR D_is_number.ok (hr.mono (by decide)) rfl D_is_number.at_ D_is_number.kp pass0 (pa_cons (pv 1) (pa_cons pe_int (pa_cons (ClX.pe_cval (pe_glob (v := .ref C) rfl T.gP rfl)) pa_nil))))))
        (pss_one (ps_raise (W := fun cls d _ H => E cls d H) rfl (takes_of rfl rfl rfl rfl) (pmk_any XB_F XB_q XB.at_ XB.kp (raises_own XB.sub XB.ty) rfl (pa_cons pe_str pa_nil)))) pss_nil)), ?_⟩
    refine ⟨_, rfl, by show 2 ≤ sizeLine; decide, fun l hl => ⟨l, _, rfl, .inr (SqT.of upd_same), rfl, rfl, _, rfl, ?_⟩⟩
    rcases hbad with rfl | ⟨⟨b, rfl⟩, hn⟩
    · exact ifT (by decide +kernel) ⟨⟨_, rfl⟩, k _ (same_upd hl)⟩
    · refine ifF (by cases b <;> decide +kernel) ?_
      refine ⟨_, rfl, C, mc, _, u, rfl, T.rd, hu, n, 0, _, rfl, _, rfl, ?_⟩
      rw [decide_eq_false hn]
      exact iteT ⟨⟨_, rfl⟩, k _ (same_upd hl)⟩
abbrev s_House_meet : Stmt := inClass (top 31) 8
abbrev n_House_meet : List Str := ["self", "room", "need", "red", "carried"]
theorem sc_House_meet : FnScope n_House_meet ["self", "room", "need"] (defScope s_House_meet) := ⟨rfl, rfl, rfl, by decide +kernel, rfl, by decide +kernel, by decide +kernel⟩
theorem ok_House_meet {f f_check_meeting f_after_step fAc pR gR : Addr} {fd : FuncData} (F : Fun K "meet" "House.meet" s_House_meet f fd) (D_check_meeting : Dn P w K mg base 2 "check_meeting" f_check_meeting spChkMeet) (D_after_step : Dn P w K mg base 1 "after_step" f_after_step spAStep) (OH : HTxt K CH) (MAc : Meth K CH "accept" fAc) (GAc : FnR P w K mg base CX0 3 fAc (spAccept CH CM)) (PR : PropOf K CH "red" pR gR) (ORd : FnOk P w K mg base CX0 1 gR fdR ["self"] (spRedP CH CM)) (bR : Binds K fdR ["self"] []) : FnOk P w K mg base CX0 4 f fd ["self", "room", "need"] (spMeet CH CM) := by
  refine F.ok sc_House_meet (fun vs H Q E h => ?_) (fun cdv A outer s H vs Q E hr h => ?_)
  · obtain ⟨x, m, b, c, r, mv, n, t, op, e, rv, rfl, _⟩ := h
    rfl
  · obtain ⟨x, m, b, c, r, mv, n, t, op, e, rv, rfl, hh, c0, c1, r0, r1, n0, n1, k⟩ := h
    refine ⟨_, pss_cons (ps_expr (pe_callR D_check_meeting.ok (hr.mono (by decide)) rfl D_check_meeting.at_ D_check_meeting.kp pass0 (pa_cons (pv 1) (pa_cons (pv 2) pa_nil))))
      (pss_cons (ps_if (pt_cmpR op_gt (pv 2) (pe_fld (pv 0) rfl) (nomark _))
        (pss_one ps_never) pss_nil)
      (pss_cons (ps_asg (pe_callR D_after_step.ok (hr.mono (by decide)) rfl D_after_step.at_ D_after_step.kp pass0 (pa_cons (pe_tup (pa_cons (pv 1) (pa_cons (pv 2) pa_nil))) (pa_cons (pe_fld (pv 0) rfl) (pa_cons (pe_prop (pv 0) OH.cl PR ORd (hr.mono (by decide)) bR .nil pass0 rfl) pa_nil)))) (pg_tup rfl (pgs_cons (pg_name (i := 3) sc_House_meet.nd rfl (.inl rfl)) (pgs_cons (pg_name (i := 4) sc_House_meet.nd rfl (.inl rfl)) pgs_nil))))
      (pss_cons (ps_expr (pe_methR (pv 0) OH.cl MAc GAc (hr.mono (by decide)) pass0 (pa_cons (pe_tup (pa_cons pe_str (pa_cons (pv 1) (pa_cons (pv 2) pa_nil)))) (pa_cons (pv 3) (pa_cons (pv 4) (pa_cons pe_bl pa_nil))))))
      (pss_one (ps_ret (pv 4)))))), ?_⟩
    obtain ⟨dx, h1⟩ := hh.at_
    refine ⟨_, rfl, _, rfl, b, n, rfl, n0, by omega, fun H1 s1 => ?_⟩
    refine ⟨_, rfl, _, rfl, x, CH, dx, _, _, rfl, s1 _ _ h1, OH.cl, OH.a1, lkZ, _, _, rfl, rfl, _, rfl, ?_⟩
    rw [decide_eq_false (show ¬ c < n by omega)]
    refine iteF ?_
    refine ⟨_, rfl, _, rfl, by show 2 ≤ sizeLine; decide, fun ts hts => ?_⟩
    have s2 := s1.trans (same_upd (o := .tup [.str (roomS b), .int n]) hts)
    have g2 := upd_same (H := H1) (a := ts) (o := .tup [.str (roomS b), .int n])
    generalize upd H1 ts (.tup [.str (roomS b), .int n]) = H2 at *
    refine ⟨_, rfl, x, CH, dx, _, _, rfl, s2 _ _ h1, OH.cl, OH.a1, lkZ, _, rfl, x, dx, _, rfl, s2 _ _ h1, x, m, c, r, mv, t, op, e, rv, rfl, hh.same s2, .ref ts, .meet b n, c, r, rfl, ⟨ts, rfl, g2⟩, fun q H3 s3 e3 => ?_⟩
    have s4 := s2.trans s3
    refine ⟨q, _, rfl, SqT.of e3, rfl, _, _, rfl, _, _, rfl, rfl, ?_⟩
    refine ⟨_, rfl, x, dx, _, rfl, s4 _ _ h1, lkS (by decide) (lkS (by decide) (lkS (by decide) lkN)), _, rfl, _, rfl, by show 3 ≤ sizeLine; decide, fun tq htq => ?_⟩
    have s5 := s4.trans (same_upd (o := .tup [.str "meet", .str (roomS b), .int n]) htq)
    have g5 := upd_same (H := H3) (a := tq) (o := .tup [.str "meet", .str (roomS b), .int n])
    generalize upd H3 tq (.tup [.str "meet", .str (roomS b), .int n]) = H5 at *
    refine ⟨_, rfl, _, rfl, x, m, c, r, mv, t, op, e, rv, .ref tq, _, _, false, rfl, hh.same s5, fun m' H6 b6 h6 => ⟨_, rfl, ?_⟩⟩
    have et : (t != false) = t := by cases t <;> rfl
    rw [et] at h6
    exact k m' tq H6 ((But.of s5).trans b6) (b6 _ _ (ne_of g5 (s5 _ _ h1) fun z => nomatch z) g5) h6
theorem okx_House_meet {f f_after_step fx_check_meeting fAc pR gR : Addr} {fd : FuncData} (F : Fun K "meet" "House.meet" s_House_meet f fd) (D_after_step : Dn P w K mg base 1 "after_step" f_after_step spAStep) (DX_check_meeting : DnX P w K mg base 2 "check_meeting" fx_check_meeting (spChkMeetB CB)) (XE : Err K mg "NotEnough" CE) (OH : HTxt K CH) (MAc : Meth K CH "accept" fAc) (GAc : FnR P w K mg base CX0 3 fAc (spAccept CH CM)) (PR : PropOf K CH "red" pR gR) (ORd : FnOk P w K mg base CX0 1 gR fdR ["self"] (spRedP CH CM)) (bR : Binds K fdR ["self"] []) : FnOk P w K mg base (L2.CX P w) 4 f fd ["self", "room", "need"] (spMeetX CH CM CB CE) := by
  refine F.okX sc_House_meet (fun vs H Q E h => ?_) (fun cdv A outer s H vs Q E hr h => ?_)
  · obtain ⟨x, m, rm, c, r, mv, n, t, op, e, rv, rfl, _⟩ := h
    rfl
  · obtain ⟨x, m, rm, c, r, mv, n, t, op, e, rv, rfl, hh, k⟩ := h
    obtain ⟨bmB, Bn, newId, initId, XE_F, XE_q⟩ := XE.ex
    refine ⟨_, pss_cons (ps_expr (pe_callR (Ez := E) DX_check_meeting.ok (hr.mono (by decide)) rfl DX_check_meeting.at_ DX_check_meeting.kp (passes_call (takes_of rfl rfl rfl rfl) fun _ _ _ _ h => h) (pa_cons (pv 1) (pa_cons (pv 2) pa_nil))))
      (pss_cons (ps_if (pt_cmpR op_gt (pv 2) (pe_fld (pv 0) rfl) (nomark _))
        (pss_one (ps_raise (W := fun cls d _ H => E cls d H) rfl (takes_of rfl rfl rfl rfl) (pmk_any XE_F XE_q XE.at_ XE.kp (raises_own XE.sub XE.ty) rfl (pa_cons pe_str pa_nil)))) pss_nil)
      (pss_cons (ps_asg (pe_callR D_after_step.ok (hr.mono (by decide)) rfl D_after_step.at_ D_after_step.kp pass0 (pa_cons (pe_tup (pa_cons (pv 1) (pa_cons (pv 2) pa_nil))) (pa_cons (pe_fld (pv 0) rfl) (pa_cons (pe_prop (pv 0) OH.cl PR ORd (hr.mono (by decide)) bR .nil pass0 rfl) pa_nil)))) (pg_tup rfl (pgs_cons (pg_name (i := 3) sc_House_meet.nd rfl (.inl rfl)) (pgs_cons (pg_name (i := 4) sc_House_meet.nd rfl (.inl rfl)) pgs_nil))))
      (pss_cons (ps_expr (pe_methR (pv 0) OH.cl MAc GAc (hr.mono (by decide)) pass0 (pa_cons (pe_tup (pa_cons pe_str (pa_cons (pv 1) (pa_cons (pv 2) pa_nil)))) (pa_cons (pv 3) (pa_cons (pv 4) (pa_cons pe_bl pa_nil))))))
      (pss_one (ps_ret (pv 4)))))), ?_⟩
    obtain ⟨dx, h1⟩ := hh.at_
    rcases k with ⟨hb, k⟩ | ⟨⟨b, rfl⟩, n0, n1, cn, k⟩
    · exact ⟨_, rfl, _, rfl, .inr ⟨rm, n, rfl, hb, k⟩⟩
    · refine ⟨_, rfl, _, rfl, .inl ⟨b, n, rfl, n0, n1, fun H1 s1 => ?_⟩⟩
      refine ⟨_, rfl, _, rfl, x, CH, dx, _, _, rfl, s1 _ _ h1, OH.cl, OH.a1, lkZ, _, _, rfl, rfl, _, rfl, ?_⟩
      rw [decide_eq_true cn]
      exact iteT ⟨⟨_, rfl⟩, k H1 s1⟩
abbrev s_House_turn : Stmt := inClass (top 31) 9
abbrev n_House_turn : List Str := ["self"]
theorem sc_House_turn : FnScope n_House_turn ["self"] (defScope s_House_turn) := ⟨rfl, rfl, rfl, by decide +kernel, rfl, by decide +kernel, by decide +kernel⟩
theorem ok_House_turn {f fAc pB gB : Addr} {fd : FuncData} (F : Fun K "turn" "House.turn" s_House_turn f fd) (T : Txt K mg C TU pS gS mc) (OH : HTxt K CH) (MAc : Meth K CH "accept" fAc) (GAc : FnR P w K mg base CX0 3 fAc (spAccept CH CM)) (PB : PropOf K CH "blue" pB gB) (OBl : FnOk P w K mg base CX0 1 gB fdB ["self"] (spBlueP CH CM)) (bB : Binds K fdB ["self"] []) : FnOk P w K mg base CX0 4 f fd ["self"] (spTurn CH CM TU) := by
  refine F.ok sc_House_turn (fun vs H Q E h => ?_) (fun cdv A outer s H vs Q E hr h => ?_)
  · obtain ⟨x, m, c, r, mv, t, op, e, rv, rfl, _⟩ := h
    rfl
  · obtain ⟨x, m, c, r, mv, t, op, e, rv, rfl, hh, k⟩ := h
    refine ⟨_, pss_one (ps_expr (pe_methR (pv 0) OH.cl MAc GAc (hr.mono (by decide)) pass0 (pa_cons (pe_glob (v := .ref TU) rfl T.gT rfl) (pa_cons (pe_prop (pv 0) OH.cl PB OBl (hr.mono (by decide)) bB .nil pass0 rfl) (pa_cons pe_int (pa_cons pe_bl pa_nil)))))), ?_⟩
    obtain ⟨dx, h1⟩ := hh.at_
    exact ⟨_, rfl, x, dx, _, rfl, h1, lkS (by decide) (lkS (by decide) (lkS (by decide) lkN)), _, rfl, x, dx, _, rfl, h1, x, m, c, r, mv, t, op, e, rv, rfl, hh, x, m, c, r, mv, t, op, e, rv, _, _, _, _, rfl, hh, fun m' H' b h => k m' H' b h⟩
end
end Cc

/-! A house that is told to run too few or too many rounds. -/
namespace Cc
open PySem PySem.Spec PyProof.Rows L2
def spRunX (C CH CM CN : Addr) : Sp := fun vs H _ E => ∃ (x m p : Addr) (c r mv n : Int) (t : Bool) (op e rv : V) (ss : List Stp), vs = [.ref x, .ref p, .int n] ∧ HouseIs CH CM H x c m op r mv t e rv ∧ PlanAt C H p ss ∧ ss.length ≤ 60 ∧ (∀ s ∈ ss, s.ok c) ∧ 0 ≤ c ∧ c ≤ 1000000000000000000 ∧ ¬ (0 ≤ n ∧ n ≤ 1000000000000000000) ∧
  ∀ H', Same H H' → E (.ref CN) none H'
section
variable {P : Program} {w : World} {K : PySem.W.Frag} {mg : Str → Option Value} {base : Heap} {C CH CM CN TU pS gS : Addr} {fdR fdT : FuncData} {mc : Value}
theorem okx_House_run {f f_check_house f_after_rounds fx_check_number fAc pR gR pT gT : Addr} {fd fdS : FuncData} (F : Fun K "run" "House.run" s_House_run f fd) (T : Txt K mg C TU pS gS mc) (G : Gs P w K mg base C gS fdS) (g_MAX_ROUNDS : ∃ u, mg "MAX_ROUNDS" = some u ∧ RelV (.int 1000000000000000000) u) (D_check_house : Dn P w K mg base 3 "check_house" f_check_house (spChkHouse C)) (D_after_rounds : Dn P w K mg base 3 "after_rounds" f_after_rounds (spARounds C)) (DX_check_number : DnX P w K mg base 2 "check_number" fx_check_number (spNumX CN)) (OH : HTxt K CH) (MAc : Meth K CH "accept" fAc) (GAc : FnR P w K mg base CX0 3 fAc (spAccept CH CM)) (PR : PropOf K CH "red" pR gR) (ORd : FnOk P w K mg base CX0 1 gR fdR ["self"] (spRedP CH CM)) (bR : Binds K fdR ["self"] []) (PT : PropOf K C "is_turning" pT gT) (OTu : FnOk P w K mg base CX0 1 gT fdT ["self"] (spTurning C)) (bT : Binds K fdT ["self"] []) : FnOk P w K mg base (L2.CX P w) 4 f fd ["self", "plan", "rounds"] (spRunX C CH CM CN) := by
  refine F.okX sc_House_run (fun vs H Q E h => ?_) (fun cdv A outer s H vs Q E hr h => ?_)
  · obtain ⟨x, m, p, c, r, mv, n, t, op, e, rv, ss, rfl, _⟩ := h
    rfl
  · obtain ⟨x, m, p, c, r, mv, n, t, op, e, rv, ss, rfl, hh, hp, hl, hs, c0, c1, nn, k⟩ := h
    obtain ⟨u_MAX_ROUNDS, m_MAX_ROUNDS, r_MAX_ROUNDS⟩ := g_MAX_ROUNDS
    refine ⟨_, pss_cons (ps_expr (pe_callR D_check_house.ok (hr.mono (by decide)) rfl D_check_house.at_ D_check_house.kp pass0 (pa_cons (pv 1) (pa_cons (pe_fld (pv 0) rfl) pa_nil))))
      (pss_cons (ps_expr (pe_callR (Ez := E) DX_check_number.ok (hr.mono (by decide)) rfl DX_check_number.at_ DX_check_number.kp (passes_call (takes_of rfl rfl rfl rfl) fun _ _ _ _ h => h) (pa_cons (pv 2) (pa_cons pe_int (pa_cons (pe_glob rfl m_MAX_ROUNDS r_MAX_ROUNDS) pa_nil)))))
      (pss_cons (ps_asg (pe_callR D_after_rounds.ok (hr.mono (by decide)) rfl D_after_rounds.at_ D_after_rounds.kp pass0 (pa_cons (pv 1) (pa_cons (pe_fld (pv 0) rfl) (pa_cons (pe_prop (pv 0) OH.cl PR ORd (hr.mono (by decide)) bR .nil pass0 rfl) (pa_cons (pv 2) pa_nil))))) (pg_tup rfl (pgs_cons (pg_name (i := 3) sc_House_run.nd rfl (.inl rfl)) (pgs_cons (pg_name (i := 4) sc_House_run.nd rfl (.inl rfl)) pgs_nil))))
      (pss_cons (ps_expr (pe_methR (pv 0) OH.cl MAc GAc (hr.mono (by decide)) pass0 (pa_cons (pe_tup (pa_cons pe_str (pa_cons (pe_prop (pv 1) T.cl T.pr G.ok (hr.mono (by decide)) G.b .nil pass0 rfl) (pa_cons (pv 2) pa_nil)))) (pa_cons (pv 3) (pa_cons (pv 4) (pa_cons (pe_and (pe_prop (pv 1) T.cl PT OTu (hr.mono (by decide)) bT .nil pass0 rfl) (pe_one (pe_cmpR op_eq (pe_op op_mod (pv 2) pe_int) pe_int (nomark _)))) pa_nil))))))
      (pss_one (ps_ret (pv 4)))))), ?_⟩
    obtain ⟨dx, h1⟩ := hh.at_
    refine ⟨_, rfl, _, rfl, x, CH, dx, _, _, rfl, h1, OH.cl, OH.a1, lkZ, p, c, ss, rfl, hp, c0, c1, hs, hl, fun H1 s1 => ?_⟩
    exact ⟨_, rfl, n, 0, _, rfl, by decide, by decide, fun h => absurd h nn, fun _ => k H1 s1⟩
end
end Cc

/-! A house too small for a plan that it is told to run. -/
namespace Cc
open PySem PySem.Spec PyProof.Rows L2
def spRunF (C CH CM CT : Addr) : Sp := fun vs H _ E => ∃ (x m p : Addr) (c r mv n : Int) (t : Bool) (op e rv : V) (ss : List Stp), vs = [.ref x, .ref p, .int n] ∧ HouseIs CH CM H x c m op r mv t e rv ∧ PlanAt C H p ss ∧ ss.length ≤ 60 ∧ 0 ≤ c ∧ c ≤ 1000000000000000000 ∧ (∃ s ∈ ss, bigS c s) ∧
  ∀ i H' d, FewAt c ss i → Same H H' → H' d = none → E (.ref CT) (some d) (upd H' d (.xd [(("index" : Str), .int (i : Nat))]))
/-- two promises of one def, one of them never raises -/
theorem fnr_or {P : Program} {w : World} {K : PySem.W.Frag} {mg : Str → Option Value} {base : Heap} {k : Nat} {f : Addr} {sp sq : Sp} (F : FnR P w K mg base CX0 k f sp) (G : FnR P w K mg base (L2.CX P w) k f sq) : FnR P w K mg base (L2.CX P w) k f (fun vs H Q E => sp vs H Q E ∨ sq vs H Q E) := by
  intro A outer s H us vs Q E hr e0 r h
  rcases h with h | h
  · refine codeAny_mono (F A outer s H us vs Q E hr e0 r h) fun z s' hq => ?_
    cases z with
    | error e => exact (False.elim hq)
    | ok fl =>
      cases fl with
      | ret u => exact hq
      | next => exact hq
      | brk => exact hq
      | cont => exact hq
  · exact G A outer s H us vs Q E hr e0 r h
theorem fnr_orX {P : Program} {w : World} {K : PySem.W.Frag} {mg : Str → Option Value} {base : Heap} {CX : CXT} {k : Nat} {f : Addr} {sp sq : Sp} (F : FnR P w K mg base CX k f sp) (G : FnR P w K mg base CX k f sq) : FnR P w K mg base CX k f (fun vs H Q E => sp vs H Q E ∨ sq vs H Q E) := by
  intro A outer s H us vs Q E hr e0 r h
  rcases h with h | h
  · exact F A outer s H us vs Q E hr e0 r h
  · exact G A outer s H us vs Q E hr e0 r h
namespace Few
section
variable {P : Program} {w : World} {K : PySem.W.Frag} {mg : Str → Option Value} {base : Heap} {C CH CM CT TU pS gS : Addr} {fdR fdT : FuncData} {mc : Value}
theorem okx_House_run {f f_check_number f_after_rounds fx_check_house fAc pR gR pT gT : Addr} {fd fdS : FuncData} (F : Fun K "run" "House.run" s_House_run f fd) (T : Txt K mg C TU pS gS mc) (G : Gs P w K mg base C gS fdS) (g_MAX_ROUNDS : ∃ u, mg "MAX_ROUNDS" = some u ∧ RelV (.int 1000000000000000000) u) (D_check_number : Dn P w K mg base 2 "check_number" f_check_number spChkNum) (D_after_rounds : Dn P w K mg base 3 "after_rounds" f_after_rounds (spARounds C)) (DX_check_house : DnX P w K mg base 3 "check_house" fx_check_house (spHouseX C CT)) (OH : HTxt K CH) (MAc : Meth K CH "accept" fAc) (GAc : FnR P w K mg base CX0 3 fAc (spAccept CH CM)) (PR : PropOf K CH "red" pR gR) (ORd : FnOk P w K mg base CX0 1 gR fdR ["self"] (spRedP CH CM)) (bR : Binds K fdR ["self"] []) (PT : PropOf K C "is_turning" pT gT) (OTu : FnOk P w K mg base CX0 1 gT fdT ["self"] (spTurning C)) (bT : Binds K fdT ["self"] []) : FnOk P w K mg base (L2.CX P w) 4 f fd ["self", "plan", "rounds"] (spRunF C CH CM CT) := by
  refine F.okX sc_House_run (fun vs H Q E h => ?_) (fun cdv A outer s H vs Q E hr h => ?_)
  · obtain ⟨x, m, p, c, r, mv, n, t, op, e, rv, ss, rfl, _⟩ := h
    rfl
  · obtain ⟨x, m, p, c, r, mv, n, t, op, e, rv, ss, rfl, hh, hp, hl, c0, c1, hb, k⟩ := h
    obtain ⟨u_MAX_ROUNDS, m_MAX_ROUNDS, r_MAX_ROUNDS⟩ := g_MAX_ROUNDS
    refine ⟨_, pss_cons (ps_expr (pe_callR (Ez := E) DX_check_house.ok (hr.mono (by decide)) rfl DX_check_house.at_ DX_check_house.kp (passes_call (takes_of rfl rfl rfl rfl) fun _ _ _ _ h => h) (pa_cons (pv 1) (pa_cons (pe_fld (pv 0) rfl) pa_nil))))
      (pss_cons (ps_expr (pe_callR D_check_number.ok (hr.mono (by decide)) rfl D_check_number.at_ D_check_number.kp pass0 (pa_cons (pv 2) (pa_cons pe_int (pa_cons (pe_glob rfl m_MAX_ROUNDS r_MAX_ROUNDS) pa_nil)))))
      (pss_cons (ps_asg (pe_callR D_after_rounds.ok (hr.mono (by decide)) rfl D_after_rounds.at_ D_after_rounds.kp pass0 (pa_cons (pv 1) (pa_cons (pe_fld (pv 0) rfl) (pa_cons (pe_prop (pv 0) OH.cl PR ORd (hr.mono (by decide)) bR .nil pass0 rfl) (pa_cons (pv 2) pa_nil))))) (pg_tup rfl (pgs_cons (pg_name (i := 3) sc_House_run.nd rfl (.inl rfl)) (pgs_cons (pg_name (i := 4) sc_House_run.nd rfl (.inl rfl)) pgs_nil))))
      (pss_cons (ps_expr (pe_methR (pv 0) OH.cl MAc GAc (hr.mono (by decide)) pass0 (pa_cons (pe_tup (pa_cons pe_str (pa_cons (pe_prop (pv 1) T.cl T.pr G.ok (hr.mono (by decide)) G.b .nil pass0 rfl) (pa_cons (pv 2) pa_nil)))) (pa_cons (pv 3) (pa_cons (pv 4) (pa_cons (pe_and (pe_prop (pv 1) T.cl PT OTu (hr.mono (by decide)) bT .nil pass0 rfl) (pe_one (pe_cmpR op_eq (pe_op op_mod (pv 2) pe_int) pe_int (nomark _)))) pa_nil))))))
      (pss_one (ps_ret (pv 4)))))), ?_⟩
    obtain ⟨dx, h1⟩ := hh.at_
    exact ⟨_, rfl, _, rfl, x, CH, dx, _, _, rfl, h1, OH.cl, OH.a1, lkZ, p, c, ss, rfl, hp, c0, c1, hb, hl, fun i H' d fa s1 hd => k i H' d fa s1 hd⟩
end
end Few
end Cc

/-! Entries of a history, and when two of them say the same. -/
namespace Cc
open PySem PySem.Spec PyProof.Rows L2
inductive Ent where
  | turn
  | meet (b : Bool) (n : Int)
  | run (ss : List Stp) (n : Int)
def StepT (K : PySem.W.Frag) (H : Hp) (v : V) (s : Stp) : Prop := ∃ t, v = .ref t ∧ TupK K H t (stpV s)
def EntAt (K : PySem.W.Frag) (H : Hp) (v : V) : Ent → Prop
  | .turn => ∃ p, v = .ref p ∧ TupK K H p [.str "turn"]
  | .meet b n => ∃ p, v = .ref p ∧ TupK K H p [.str "meet", .str (roomS b), .int n]
  | .run ss n => ∃ p tp ws, v = .ref p ∧ TupK K H p [.str "run", .ref tp, .int n] ∧ TupK K H tp ws ∧ Paired (StepT K H) ws ss
theorem StepT.fix {K : PySem.W.Frag} {H H1 : Hp} {v : V} {s : Stp} (h : StepT K H v s) (g : Fix H H1) : StepT K H1 v s := let ⟨t, a, b⟩ := h; ⟨t, a, b.fix g⟩
theorem EntAt.fix {K : PySem.W.Frag} {H H1 : Hp} {v : V} {e : Ent} (h : EntAt K H v e) (g : Fix H H1) : EntAt K H1 v e := by
  cases e with
  | turn => exact let ⟨p, a, b⟩ := h; ⟨p, a, b.fix g⟩
  | meet b n => exact let ⟨p, a, b⟩ := h; ⟨p, a, b.fix g⟩
  | run ss n => exact let ⟨p, tp, ws, a, b, c, d⟩ := h; ⟨p, tp, ws, a, b.fix g, c.fix g, Paired.mapP d fun _ _ z => z.fix g⟩
theorem EntAt.same {K : PySem.W.Frag} {H H1 : Hp} {v : V} {e : Ent} (h : EntAt K H v e) (g : Same H H1) : EntAt K H1 v e := h.fix (Fix.of g)
theorem steps_T {K : PySem.W.Frag} {H : Hp} {ws : List V} {ss : List Stp} (h : Steps H ws ss) : Paired (StepT K H) ws ss := Paired.mapP h fun _ _ ⟨t, a, b⟩ => ⟨t, a, TupK.of b⟩
theorem sm_scal {K : PySem.W.Frag} {H : Hp} {v : V} (h : Scal v) : ∀ n, SmD K H n v v
  | 0 => ⟨rfl, h⟩
  | n + 1 => .inl (sm_scal h n)
theorem sm_all {K : PySem.W.Frag} {H : Hp} (n : Nat) : ∀ {xs : List V}, (∀ x ∈ xs, Scal x) → Paired (SmD K H n) xs xs
  | [], _ => .nil
  | x :: r, h => .cons (sm_scal (h x List.mem_cons_self) n) (sm_all n fun y hy => h y (List.mem_cons_of_mem _ hy))
theorem sm_tup {K : PySem.W.Frag} {H : Hp} {p q : Addr} {xs : List V} {n : Nat} (a : TupK K H p xs) (b : TupK K H q xs) (h : ∀ x ∈ xs, Scal x) (l : xs.length ≤ 100000) : SmD K H (n + 1) (.ref p) (.ref q) := .inr ⟨p, q, xs, xs, rfl, rfl, l, sm_all n h, .inr ⟨a, b⟩⟩
theorem sm_step {K : PySem.W.Frag} {H : Hp} {v u : V} {s : Stp} {n : Nat} (a : StepT K H v s) (b : StepT K H u s) : SmD K H (n + 1) v u := by
  obtain ⟨p, rfl, hp⟩ := a
  obtain ⟨q, rfl, hq⟩ := b
  cases s with
  | turn => exact sm_tup hp hq (fun x hx => by rw [List.mem_singleton.mp hx]; exact .inr (.inl ⟨_, rfl⟩)) (by decide)
  | meet bb m =>
    refine sm_tup hp hq (fun x hx => ?_) (by show 2 ≤ 100000; decide)
    rcases List.mem_cons.mp hx with z | z
    · exact .inr (.inl ⟨_, z⟩)
    · exact .inl ⟨_, List.mem_singleton.mp z⟩
theorem sm_steps {K : PySem.W.Frag} {H : Hp} (n : Nat) : ∀ {vs us : List V} {ss : List Stp}, Paired (StepT K H) vs ss → Paired (StepT K H) us ss → Paired (SmD K H (n + 1)) vs us
  | [], us, [], .nil, b => by cases b; exact .nil
  | v :: vs, _, s :: ss, .cons a r, b => by
    cases b with
    | cons c d => exact .cons (sm_step a c) (sm_steps n r d)
theorem entAt_sm {K : PySem.W.Frag} {H : Hp} {v u : V} {e : Ent} (a : EntAt K H v e) (b : EntAt K H u e) (hl : ∀ ss n, e = .run ss n → ss.length ≤ 1000) : SmD K H 3 v u := by
  cases e with
  | turn =>
    obtain ⟨p, rfl, hp⟩ := a
    obtain ⟨q, rfl, hq⟩ := b
    exact sm_tup hp hq (fun x hx => by rw [List.mem_singleton.mp hx]; exact .inr (.inl ⟨_, rfl⟩)) (by decide)
  | meet bb m =>
    obtain ⟨p, rfl, hp⟩ := a
    obtain ⟨q, rfl, hq⟩ := b
    refine sm_tup hp hq (fun x hx => ?_) (by show 3 ≤ 100000; decide)
    rcases List.mem_cons.mp hx with z | z
    · exact .inr (.inl ⟨_, z⟩)
    rcases (List.mem_cons.mp z) with z | z
    · exact .inr (.inl ⟨_, z⟩)
    · exact .inl ⟨_, List.mem_singleton.mp z⟩
  | run ss n =>
    obtain ⟨p, tp, ws, rfl, hp, ht, hs⟩ := a
    obtain ⟨q, tq, us, rfl, hq, hu, hs'⟩ := b
    have lw : ws.length = ss.length := Paired.length hs
    have l1 := hl ss n rfl
    refine .inr ⟨p, q, _, _, rfl, rfl, by show 3 ≤ 100000; decide, .cons (sm_scal (.inr (.inl ⟨_, rfl⟩)) 2) (.cons (.inr ⟨tp, tq, ws, us, rfl, rfl, by omega, sm_steps 0 hs hs', .inr ⟨ht, hu⟩⟩) (.cons (sm_scal (.inl ⟨_, rfl⟩) 2) .nil)), .inr ⟨hp, hq⟩⟩
end Cc

/-! A history, told with its entries. -/
namespace Cc
open PySem PySem.Spec PyProof.Rows L2
theorem pr_app {α β : Type} {R : α → β → Prop} : ∀ {a : List α} {b : List β} {c : List α} {d : List β}, Paired R a b → Paired R c d → Paired R (a ++ c) (b ++ d)
  | _, _, _, _, .nil, z => z
  | _, _, _, _, .cons x r, z => .cons x (pr_app r z)
theorem pr_rev {α β : Type} {R : α → β → Prop} : ∀ {a : List α} {b : List β}, Paired R a b → Paired R a.reverse b.reverse
  | _, _, .nil => .nil
  | _, _, .cons x r => by
    rw [List.reverse_cons]; rw [List.reverse_cons]
    exact pr_app (pr_rev r) (.cons x .nil)
theorem pr_drop {α β : Type} {R : α → β → Prop} : ∀ {a : List α} {b : List β}, Paired R a b → Paired R (a.drop 1) (b.drop 1)
  | _, _, .nil => .nil
  | _, _, .cons _ r => r
theorem pr_get {α β : Type} {R : α → β → Prop} : ∀ {a : List α} {b : List β} {i : Nat} {x : α}, Paired R a b → a[i]? = some x → ∃ y, b[i]? = some y ∧ R x y
  | _, _, 0, _, .cons x r, e => by
    cases e
    exact ⟨_, rfl, x⟩
  | _, _, i + 1, _, .cons _ r, e => pr_get (i := i) r e
def MomOf (CM : Addr) (H : Hp) (a : Addr) (p : V × Int) : Prop := ∃ mv t e, MomAt CM H a p.1 p.2 mv t e
/-- the moments from one back to the first, their operations and red rooms -/
def ChainO (CM : Addr) (H : Hp) (v : V) (as : List Addr) (ps : List (V × Int)) : Prop := Chain CM H v as ∧ Paired (MomOf CM H) as ps
def spHistO (CH CM : Addr) : Sp := fun vs H Q _ => ∃ (x m : Addr) (c r mv : Int) (t : Bool) (op e rv : V) (as : List Addr) (ps : List (V × Int)), vs = [.ref x] ∧ HouseIs CH CM H x c m op r mv t e rv ∧ ChainO CM H (.ref m) as ps ∧ as.length ≤ 900 ∧
  ∀ q H', Same H H' → H' q = some (.lst ((ps.reverse.drop 1).map (·.1))) → H q = none → Q (.ref q) H'
theorem cut_one (xs : List V) : cutV xs (some 1) none = xs.drop 1 := by
  have e2 : HT.sIx xs.length xs.length none = xs.length := rfl
  have e1 : HT.sIx xs.length 0 (some 1) = min 1 xs.length := HT.sIx_nat xs.length 0 1
  unfold cutV
  rw [e1, e2]
  cases xs with
  | nil => rfl
  | cons x r =>
    have : min 1 (x :: r).length = 1 := by simp
    rw [this]
    simp
namespace Tell
section
variable {P : Program} {w : World} {K : PySem.W.Frag} {mg : Str → Option Value} {base : Heap} {C CH CM TU pS gS : Addr} {mc : Value}
abbrev s_House_history : Stmt := inClass (top 31) 5
abbrev n_House_history : List Str := ["self", "moment"]
theorem sc_House_history : FnScope n_House_history ["self"] (defScope s_House_history) := ⟨rfl, rfl, rfl, by decide +kernel, rfl, by decide +kernel, by decide +kernel⟩
theorem ok_House_history {f fMo : Addr} {fd : FuncData} (F : Fun K "history" "House.history" s_House_history f fd) (OH : HTxt K CH) (OM : MTxt K CM) (MMo : Meth K CH "moments" fMo) (GMo : FnR P w K mg base CX0 1 fMo (spMoments CH CM)) : FnOk P w K mg base CX0 2 f fd ["self"] (spHistO CH CM) := by
  refine F.ok sc_House_history (fun vs H Q E h => ?_) (fun cdv A outer s H vs Q E hr h => ?_)
  · obtain ⟨x, m, c, r, mv, t, op, e, rv, as, ps, rfl, _⟩ := h
    rfl
  · obtain ⟨x, m, c, r, mv, t, op, e, rv, as, ps, rfl, hh, ⟨hc, hP⟩, hl, k⟩ := h
    refine ⟨_, pss_one (ps_ret (pe_lc (own := [("moment", 1)]) (g := gName 1) (tt := tYes) (te := (tFld K (tVar 1) "operation")) rfl sc_House_history.nd (pi_list (pe_slice sl_list (pe_methR0 (pv 0) OH.cl MMo GMo (hr.mono (by decide)) pass0) (po_some pe_int) po_none)) (blkOk_by (N := n_House_history) (sc := defScope s_House_history) (by decide +kernel)) (fun _ _ _ _ _ => pg_name (i := 1) sc_House_history.nd rfl (.inl rfl)) (fun _ _ _ _ _ => by exact pts_nil) (fun _ _ _ _ _ => by exact (pe_fld (pv 1) rfl)))), ?_⟩
    obtain ⟨dx, h1⟩ := hh.at_
    refine ⟨_, rfl, x, dx, _, rfl, h1, lkS (by decide) (lkS (by decide) (lkS (by decide) lkN)), x, m, c, r, mv, t, op, e, rv, as, rfl, hh, hc, hl, fun q H1 s1 e1 => ?_⟩
    refine ⟨1, rfl, q, _, rfl, .of e1, fun p hp => ?_⟩
    rw [cut_one, ← List.map_drop]
    have pr := pr_drop (pr_rev hP)
    have ll : as.length = ps.length := Paired.length hP
    have s2 := s1.trans (same_upd (o := .lst ((as.reverse.drop 1).map V.ref)) hp)
    have e2 := upd_same (H := H1) (a := p) (o := .lst ((as.reverse.drop 1).map V.ref))
    generalize upd H1 p (.lst ((as.reverse.drop 1).map V.ref)) = H2 at *
    have lz : (as.reverse.drop 1).length = (ps.reverse.drop 1).length := Paired.length pr
    have lb : (ps.reverse.drop 1).length ≤ 900 := by
      rw [← lz, List.length_drop, List.length_reverse]
      omega
    generalize as.reverse.drop 1 = zs at *
    generalize ps.reverse.drop 1 = us at *
    refine ⟨p, rfl, ⟨_, .of e2⟩, fun D hD => ?_⟩
    refine lc_list (K := K) (a := p) (xs := zs.map V.ref) (fun i H' => Same H2 H' ∧ H' D = some (.lst ((us.take i).map (·.1)))) ⟨same_upd hD, upd_same⟩ (fun i H' _ ⟨s3, _⟩ => SqL.of (s3 _ _ e2)) ?_ ?_
    · rintro i v H' hv ⟨s3, e3⟩
      rw [List.getElem?_map] at hv
      obtain ⟨a, ha, rfl⟩ : ∃ a, zs[i]? = some a ∧ v = V.ref a := by
        cases ez : zs[i]? with
        | none =>
          rw [ez] at hv
          cases hv
        | some a =>
          rw [ez] at hv
          exact ⟨a, rfl, (Option.some.inj hv).symm⟩
      obtain ⟨u, hu, mv1, t1, w1, da, h5⟩ := pr_get pr ha
      have li : i < us.length := (List.getElem?_eq_some_iff.mp hu).1
      refine ⟨rfl, _, rfl, a, CM, da, _, _, rfl, s3 _ _ (s2 _ _ h5), OM.cl, OM.a1, lkZ, _, e3, small1000 (by rw [List.length_map, List.length_take]; omega), same_new hD s3, upd_lst ?_⟩
      rw [take_more hu, List.map_append]
      rfl
    · rintro H' ⟨s3, e3⟩
      refine k D H' (s2.trans s3) ?_ (same_none s2 hD)
      rw [List.length_map, List.take_of_length_le (by omega)] at e3
      exact e3
end
end Tell
end Cc

/-! A generator def with a `for` amid, as the layer's own promises of generators want it. -/
namespace Cc
open PySem PySem.Spec PyProof.Rows L2 GenW
section
variable {X : Cx}
theorem GI.unpin {S : Addr} {ip : List (Addr × Obj)} {fp : List Addr} {h : Heap} {ys : List V} {σ : L2.St} {H : Hp} {s : Shared} (q : GI X S (ip ++ pinsAt fp h) ys σ H s) : GI X S ip ys σ H s :=
  let ⟨acc, c, r, I⟩ := q
  ⟨acc, c, r, (show Inv X (((S, lstObj acc c) :: ip) ++ pinsAt fp h) σ H s from I).unpinned⟩
theorem gc_in {S : Addr} {ip ip' : List (Addr × Obj)} {A : Around} {c c' : Code} {fs : List Frame} {gd : Bool → Bool} {k : Result → Sem PySem.Fin} {l kp : List Value} {p : Pos} (g : GC X S ip A c fs gd) (hw : c'.weight = 0) (hu : c'.cUnits = 0) (hf : ∀ q ∈ ip', q.1 ≠ S) :
    GC X S ip' A c' (.ret k none (gd false) l c p kp :: fs) id := by
  refine ⟨g.pn, hf, g.apart, (over_loop hw hu).trans g.over, ?_, ?_, rfl⟩
  · change (splitAtGen fs).map _ = none
    rw [g.split]
    rfl
  · change (gd false || fs.any Frame.guarded) = false
    rw [g.gd, g.guard]
    rfl
theorem gs_for {tg iter : Expr} {body : List Stmt} {wi : TI} {g : TG} {tb : TGn} {pos : Pos} (hp : PassesOwn (model X.prog X.w) X.A X.env X.xe) (hc : X.calm = true) (hi : PI X tg iter wi) (hg : PG X tg g) (hb : GSs X body tb)
    (hs : ∀ x, foldedSetIterable iter X.env x = pure x := by intro _; rfl) : GS X (.For tg iter body [] pos) (tGFor wi g tb) := by
  refine ⟨fun A S ip R n ys s₀ c fs K J gd lv s σ H D gh hn k hI ht => ?_⟩
  obtain ⟨acc, cc, r, I⟩ := hI
  rw [exec_For]
  refine seg_bind_wrap (wpAny_standAt (seg_bind_wrap ?_))
  rw [gh.over]
  refine wpAny_mono (hi.run _ s σ H _ I ht) (fun v s1 h1 => ?_) fun x s' q => k.exc n s₀ x s' q
  refine seg_bind_wrap (wpAny_of_eq (hs v) (seg_bind_wrap (wpAny_standAt (seg_bind_wrap (wpAny_holding ?_)))))
  rw [gh.over]
  refine wpAny_mono h1 (fun itv s2 h2 => ?_) fun x s' q => k.exc n s₀ x s' q
  obtain ⟨it, fp, tn, Jt, H2, e, I2, T, st2, f2, W, ⟨m0, w0⟩, turn⟩ := h2
  subst e
  refine seg_call fun p => ?_
  have apart : ∀ b ∈ fp, (b ≠ X.env.locals ∧ b ∉ X.fs ∧ (b ∈ X.ex ∨ X.s_0.heap.objs.size ≤ b) ∧ ∀ x c, X.env.cells.lookup x = some c → c ≠ b) ∧ S ≠ b ∧ ∀ q ∈ X.pn ++ ip, q.1 ≠ b := fun b hb => by
    obtain ⟨_, z1, z2, z3, z4, z5⟩ := f2 b hb
    refine ⟨⟨z1, z2, z3, z4⟩, z5 (S, lstObj acc cc) (List.mem_append_right _ List.mem_cons_self), fun q hq => ?_⟩
    rcases List.mem_append.mp hq with y | y
    · exact z5 q (List.mem_append_left _ y)
    · exact z5 q (List.mem_append_right _ (List.mem_cons_of_mem _ y))
  have stat : ∀ {acc' : Array Value} {c' : Nat} {H' : Hp}, (∀ b ∈ fp, H' b = none) → ∀ b ∈ fp, FpOk X ((S, lstObj acc' c') :: ip) H' b := fun {acc' c' H'} hn b hb => by
    obtain ⟨⟨z1, z2, z3, z4⟩, z5, z7⟩ := apart b hb
    refine ⟨hn b hb, z1, z2, z3, z4, fun q hq => ?_⟩
    rcases List.mem_append.mp hq with y | y
    · exact z7 q (List.mem_append_left _ y)
    · rcases List.mem_cons.mp y with y | y
      · rw [y]
        exact z5
      · exact z7 q (List.mem_append_right _ y)
  have farP : ∀ h : Heap, ∀ q ∈ ip ++ pinsAt fp h, q.1 ≠ S := fun h q hq => by
    rcases List.mem_append.mp hq with y | y
    · exact gh.ip q y
    · unfold pinsAt at y
      obtain ⟨b, hb, eb⟩ := List.mem_filterMap.mp y
      cases eo : h.get? b with
      | none =>
        rw [eo] at eb
        cases eb
      | some ob =>
        rw [eo] at eb
        cases eb
        exact (apart b hb).2.1.symm
  have hl := fun (kk : Result → Sem PySem.Fin) (ip' : List (Addr × Obj)) (hf : ∀ q ∈ ip', q.1 ≠ S) => gc_in (k := kk) (c' := .forLoop tg (.ref it) body [] X.env) (l := lv []) (kp := []) (p := p) gh rfl rfl hf
  have loop : ∀ (m n i : Nat) (ys : List V) (s₀ s : Shared) (σ : L2.St) (H : Hp), n + ys.length = sizeLine → W i m ys σ H → GI X S ip ys σ H s → tn i s.heap → (∀ b ∈ fp, H b = none) →
      Seg (model X.prog X.w) A R (GY X S) n s₀ (.forLoop tg (.ref it) body [] X.env) ((model X.prog X.w).den (.forLoop tg (.ref it) body [] X.env))
        (.ret (fun z => ((match z with | .ok f => (.pure f : Sem Flow) | .error e => .raise e).onRaise (cameBack X.env)).wrap K J gd lv) none (gd false) (lv []) c p [] :: fs) s := by
    intro m
    refine Nat.strongRecOn m fun m ih => ?_
    · intro n i ys s₀ s σ H hn w ⟨acc, cc, r, I⟩ st fr
      have ee : ∀ (n : Nat) (s₀ : Shared) (x : Value) (s' : Shared), X.xe x s' → Seg (model X.prog X.w) A R (GY X S) n s₀ (.forLoop tg (.ref it) body [] X.env) (outX X.env x)
          (.ret (fun z => ((match z with | .ok f => (.pure f : Sem Flow) | .error e => .raise e).onRaise (cameBack X.env)).wrap K J gd lv) none (gd false) (lv []) c p [] :: fs) s' := fun n s₀ x s' hx => by
        refine seg_wrap ?_
        rw [(hl _ ip gh.ip).over]
        refine wpAny_bind (wpAny_mono (hp x s' hx) (fun _ s2 q => wpAny_theTreesLotGoes ?_) fun y s2 q => ?_)
        · exact seg_leaf (.error x) (seg_cameBack gh k q)
        · exact seg_leaf (.error y) (seg_cameBack gh k q)
      refine seg_turn ?_
      rw [(hl _ ip gh.ip).over]
      rcases turn i m ys σ H w with ⟨halt, q⟩ | ⟨go, N, hN, step⟩
      · refine wpAny_mono (T.done X rfl rfl rfl hc i _ s σ H X.xe I (stat fr) st halt) (fun z s4 ⟨hz, I4⟩ => ?_) fun x s' q => ee n s₀ x s' q
        subst hz
        exact seg_leaf (.ok .next) (k.ok n ys s₀ s4 .next hn ⟨σ, H, ⟨acc, cc, r, I4⟩, q⟩)
      · refine wpAny_mono (T.item X rfl rfl rfl hc i _ s σ H X.xe I (stat fr) st go) (fun z s4 ⟨u, hz, h4⟩ => ?_) fun x s' q => ee n s₀ x s' q
        subst hz
        refine wpAny_mono h4 (fun _ s5 ⟨x, H5, I5, r5, y5, st5, fr5⟩ => ?_) fun x s' q => ee n s₀ x s' q
        refine wpAny_mono (hg.run _ s5 σ H5 x u _ (I5.pinned (stat fr5) (T.obj _ _ st5)) r5 (step x H5 y5)) (fun _ s6 ⟨σ6, H6, I6, q6⟩ => ?_) fun x s' q => ee n s₀ x s' q
        have next : ∀ {n' : Nat} {ys' : List V} {s₀' s7 : Shared}, n' + ys'.length = sizeLine → (∃ σ' H', GI X S (ip ++ pinsAt fp s5.heap) ys' σ' H' s7 ∧ N ys' σ' H') →
            Seg (model X.prog X.w) A R (GY X S) n' s₀' (.forLoop tg (.ref it) body [] X.env) (.pure (.again (.forLoop tg (.ref it) body [] X.env)))
              (.ret (fun z => ((match z with | .ok f => (.pure f : Sem Flow) | .error e => .raise e).onRaise (cameBack X.env)).wrap K J gd lv) none (gd false) (lv []) c p [] :: fs) s7 := fun {n' ys' s₀' s7} hn' ⟨σ7, H7, R7, n7⟩ => by
          obtain ⟨m', hm, w7⟩ := hN ys' σ7 H7 n7
          have pin7 : ∀ b ∈ fp, ∀ ob, s5.heap.get? b = some ob → s7.heap.get? b = some ob ∧ H7 b = none := fun b hb ob e => by
            obtain ⟨acc7, c7, r7, I7⟩ := R7
            have z := I7.pin (b, ob) (List.mem_append_right _ (List.mem_cons_of_mem _ (List.mem_append_right _ (mem_pinsAt hb e))))
            exact ⟨z.1, z.2.1⟩
          refine seg_again rfl (ih m' hm n' (i + 1) ys' s₀' s7 σ7 H7 hn' w7 (GI.unpin R7) (T.keep _ _ _ st5 fun b hb ob e => (pin7 b hb ob e).1) fun b hb => ?_)
          obtain ⟨ob, e, _⟩ := T.obj _ _ st5 b hb
          exact (pin7 b hb ob e).2
        refine hb.run A S (ip ++ pinsAt fp s5.heap) R n ys s₀ _ _ _ _ id id s6 σ6 H6 { D with nx := N, ct := N, bk := D.nx } (hl _ _ (farP s5.heap)) hn ⟨fun n' ys' s₀' s7 f hn' q => ?_, fun n' s₀' x s7 q => ee n' s₀' x s7 q⟩ ⟨acc, cc, r, I6⟩ q6
        cases f with
        | next => exact next hn' q
        | cont => exact next hn' q
        | brk =>
          obtain ⟨σ7, H7, R7, q⟩ := q
          exact seg_leaf (.ok .next) (k.ok n' ys' s₀' s7 .next hn' ⟨σ7, H7, GI.unpin R7, q⟩)
        | ret u =>
          obtain ⟨v7, σ7, H7, R7, r7, q⟩ := q
          exact seg_leaf (.ok (.ret u)) (k.ok n' ys' s₀' s7 (.ret u) hn' ⟨v7, σ7, H7, GI.unpin R7, r7, q⟩)
  exact loop m0 n 0 ys s₀ s2 σ H2 hn w0 ⟨acc, cc, r, I2⟩ st2 fun b hb => (f2 b hb).1
end
theorem gfor_list {K : PySem.W.Frag} {a : Addr} {xs : List V} {g : TG} {tb : TGn} {D : GEnds} {ys : List V} {σ : L2.St} {H : Hp} (Pv : Nat → List V → L2.St → Hp → Prop) (h0 : Pv 0 ys σ H) (hl : ∀ i ys σ H, i ≤ xs.length → Pv i ys σ H → SqL K H a xs)
    (hs : ∀ i x ys σ H, xs[i]? = some x → Pv i ys σ H → g x σ H fun σ2 H2 => tb { D with nx := Pv (i + 1), ct := Pv (i + 1), bk := D.nx } ys σ2 H2) (hd : ∀ ys σ H, Pv xs.length ys σ H → D.nx ys σ H) :
    ∃ W : Nat → Nat → List V → L2.St → Hp → Prop, (∃ m, W 0 m ys σ H) ∧ ∀ i m ys σ H, W i m ys σ H → ((Itl K a).stop i H ∧ D.nx ys σ H) ∨ ((Itl K a).go i H ∧ ∃ N : List V → L2.St → Hp → Prop, (∀ ys' σ' H', N ys' σ' H' → ∃ m', m' < m ∧ W (i + 1) m' ys' σ' H') ∧
      ∀ x H', (Itl K a).yld i H x H' → g x σ H' fun σ2 H2 => tb { D with nx := N, ct := N, bk := D.nx } ys σ2 H2) := by
  refine ⟨fun i m ys σ H => m = xs.length - i ∧ i ≤ xs.length ∧ Pv i ys σ H, ⟨xs.length, rfl, Nat.zero_le _, h0⟩, fun i m ys σ H ⟨em, hi, p⟩ => ?_⟩
  have q := hl i ys σ H hi p
  rcases Nat.lt_or_ge i xs.length with hlt | hge
  · refine .inr ⟨⟨xs, xs[i], q, List.getElem?_eq_getElem hlt⟩, Pv (i + 1), fun ys' σ' H' p' => ⟨xs.length - (i + 1), by omega, rfl, hlt, p'⟩, fun x H' y => ?_⟩
    obtain ⟨e, y⟩ := y
    rw [e]
    exact hs i x ys σ H (y xs q) p
  · have e : i = xs.length := Nat.le_antisymm hi hge
    rw [e] at p
    exact .inl ⟨⟨xs, q, hge⟩, hd ys σ H p⟩
end Cc

/-! House.red_counts, a generator. -/
namespace Cc
open PySem PySem.Spec PyProof.Rows L2
abbrev s_House_red_counts : Stmt := inClass (top 31) 6
abbrev n_House_red_counts : List Str := ["self", "moment"]
theorem sc_House_red_counts : GScope n_House_red_counts ["self"] (defScope s_House_red_counts) := ⟨rfl, rfl, rfl, by decide +kernel, rfl, by decide +kernel, by decide +kernel⟩
def spCounts (CH CM : Addr) : SpG := fun vs H Q _ => ∃ (x m : Addr) (c r mv : Int) (t : Bool) (op e rv : V) (as : List Addr) (ps : List (V × Int)), vs = [.ref x] ∧ HouseIs CH CM H x c m op r mv t e rv ∧ ChainO CM H (.ref m) as ps ∧ as.length ≤ 900 ∧
  ∀ H', Same H H' → Q (ps.reverse.map fun q => V.int q.2) H'
section
variable {P : Program} {w : World} {K : PySem.W.Frag} {mg : Str → Option Value} {base : Heap} {CH CM : Addr}
theorem ok_House_red_counts {f fMo : Addr} {fd : FuncData} (F : Fun K "red_counts" "House.red_counts" s_House_red_counts f fd) (OH : HTxt K CH) (OM : MTxt K CM) (MMo : Meth K CH "moments" fMo) (GMo : FnR P w K mg base CX0 1 fMo (spMoments CH CM)) :
    GFn P w K mg base 2 f fd ["self"] (spCounts CH CM) := by
  obtain ⟨oc, od, kV, doc, pm, an, cdv, ct, ol, rfl, lk, hcd⟩ := F.ex
  refine gfn_of lk hcd sc_House_red_counts (fun vs H Q E h => ?_) fun A outer s H vs Q E pn hr h => ?_
  · obtain ⟨x, m, c, r, mv, t, op, e, rv, as, ps, rfl, _⟩ := h
    rfl
  · obtain ⟨x, m, c, r, mv, t, op, e, rv, as, ps, rfl, hh, ⟨hc, hP⟩, hl, k⟩ := h
    obtain ⟨dx, h1⟩ := hh.at_
    refine ⟨_, gss_cons (gs_for owns_gcx rfl (pi_list (pe_methR0 (pv 0) OH.cl MMo GMo hr pass0)) (pg_name (i := 1) sc_House_red_counts.nd rfl (.inl rfl)) (gss_cons (gs_yield (pe_fld (pv 1) rfl)) gss_nil)) gss_nil, ?_⟩
    refine ⟨_, rfl, x, dx, _, rfl, h1, lkS (by decide) (lkS (by decide) (lkS (by decide) lkN)), x, m, c, r, mv, t, op, e, rv, as, rfl, hh, hc, hl, fun q H1 s1 e1 => ⟨q, rfl, ⟨_, .of e1⟩, ?_⟩⟩
    have pr := pr_rev hP
    have ll : as.length = ps.length := Paired.length hP
    refine gfor_list (K := K) (a := q) (xs := as.reverse.map V.ref) (fun i ys σ H' => ∃ (v : Option V), σ = [some (.ref x), v] ∧ H' = H1 ∧ ys = (ps.reverse.take i).map fun q => V.int q.2) ⟨none, rfl, rfl, rfl⟩ (fun i ys σ H' _ ⟨_, _, z, _⟩ => by rw [z]; exact .of e1) ?_ ?_
    · rintro i v ys σ H' hv ⟨_, rfl, rfl, rfl⟩
      rw [List.getElem?_map] at hv
      obtain ⟨a, ha, rfl⟩ : ∃ a, as.reverse[i]? = some a ∧ v = V.ref a := by
        cases ez : as.reverse[i]? with
        | none =>
          rw [ez] at hv
          cases hv
        | some a =>
          rw [ez] at hv
          exact ⟨a, rfl, (Option.some.inj hv).symm⟩
      obtain ⟨u, hu, mv1, t1, w1, da, h5⟩ := pr_get pr ha
      have li : i < ps.reverse.length := (List.getElem?_eq_some_iff.mp hu).1
      rw [List.length_reverse] at li
      refine ⟨by rw [List.length_map, List.length_take, List.length_reverse, sizeLine_eq]; omega, _, rfl, a, CM, da, _, _, rfl, s1 _ _ h5, OM.cl, OM.a2, lkS (by decide) lkZ, _, rfl, rfl, ?_⟩
      rw [take_more hu, List.map_append]
      rfl
    · rintro ys σ H' ⟨_, rfl, rfl, rfl⟩
      rw [List.length_map, List.length_reverse, ll, ← List.length_reverse (as := ps), List.take_length]
      exact k _ s1
end
end Cc

/-! A comprehension whose element may raise: the exception goes on, the block's variables let go. -/
namespace Cc
open PySem PySem.Spec PyProof.Rows L2
open LamX
/-- what a block ends with; an exception flies on in the block's own frame -/
def blkEnd (M : Model) (A : Around) (E : Value → Shared → Prop) (Q : Value → Shared → Prop) (acc : Value) (ce : Env) : Result → Shared → Prop
  | .ok _, z => ∃ m, z.heap.Ns ce.locals m ∧ ∀ h', Heap.SameBut ce.locals z.heap h' → Q acc { z with heap := h' }
  | .error x, z => ∃ m, z.heap.Ns ce.locals m ∧ ∀ h', Heap.SameBut ce.locals z.heap h' → wpAny M A (passOn "comprehension.variables-let-go" x ce : Sem Value) (fun _ _ => False) E { z with heap := h' }
section
variable {M : Model} {A : Around} {E : Value → Shared → Prop} {z : Shared} {env : Env}
theorem wp_compR {e : Expr} {sc : Scope} {pos : Pos} {newAcc first : Sem Value} {g : Comprehension} {gs : List Comprehension} {cl : List (Str × Addr)} {Q : Value → Shared → Prop}
    (hcl : clausesOf e = g :: gs) (hs : ∀ x, foldedSetIterable g.iter env x = pure x) (hclos : closureFor sc env = pure cl) (hk : sc.kind = .function) (hn : ∀ x ∈ sc.names, x.2 = .local → sc.names.lookup x.1 = some .local)
    (h : wpAny M A first (fun x z1 => wpAny M A (pyIter x) (fun it z2 => wpAny M A newAcc (fun acc z3 => wpAny M A (newFunctionEnv sc env.globals cl [] env.qual none .none (some env)) (fun ce z4 =>
      codeAny M A (.compStart e 0 it acc { ce with scope := relabel sc env }) (blkEnd M A E Q acc { ce with scope := relabel sc env }) z4) E z3) E z2) E z1) E z) :
    wpAny M A (comprehension e sc env pos newAcc false first none) Q E z := by
  unfold comprehension
  rw [hclos, hcl]
  refine wpAny_bind (wpAny_mono h (fun x z1 h1 => wpAny_bind (wpAny_standAt (wpAny_bind (wpAny_of_eq (hs x) (wpAny_bind (wpAny_holding (wpAny_mono h1 (fun it z2 h2 => ?_) fun _ _ q => q))))))) fun _ _ q => q)
  refine wpAny_standIf (wpAny_bind (wpAny_mono h2 (fun acc z3 h3 => wpAny_bind (wpAny_pure (wpAny_bind (wpAny_mono h3 (fun ce z4 h4 => ?_) fun _ _ q => q)))) fun _ _ q => q))
  dsimp only
  have hv : ∀ x ∈ (sc.names.filter fun x => (x.2 == .local || x.2 == .cell) && x.1 != (".0" : Str)).reverse, x.2 = .local → Env.kindOf { ce with scope := relabel sc env } x.1 = some .local :=
    fun x hx hl => lookup_relabel_local (hn x (List.mem_filter.mp (List.mem_reverse.mp hx)).1 hl)
  refine wpAny_holding (wpAny_bind (wpAny_attempt (wpAny_holding (wpAny_run (codeAny_mono h4 fun r z5 hr => ?_)))))
  cases r with
  | ok f =>
    obtain ⟨m, hm, hr⟩ := hr
    exact wpAny_bind (wpAny_holding (wpAny_comp_letGo (cenv := { ce with scope := relabel sc env }) hk _ z5 m hv hm fun h' m' _ sb => wpAny_pure (hr h' sb)))
  | error x =>
    obtain ⟨m, hm, hr⟩ := hr
    exact wpAny_bind (wpAny_holding (wpAny_comp_letGo (cenv := { ce with scope := relabel sc env }) hk _ z5 m hv hm fun h' m' _ sb => wpAny_mono (hr h' sb) (fun _ _ q => q.elim) fun _ _ q => q))
end
theorem note_env {x : Value} {e1 e2 : Env} (h : e1.frame = e2.frame) : noteFrame x e1 = noteFrame x e2 := by
  unfold noteFrame PySem.frameOf
  rw [h]
section
variable {M : Model} {A : Around} {E : Value → Shared → Prop} {z : Shared} {Z : Obj → Prop} {B : Heap} {env : Env} {outer : List Env} {L L' e : Addr}
/-- noted by another frame, of the same stack -/
theorem looks_heldZ {Q : Unit → Shared → Prop} (hZ : HandSPX.Steady Z) (hfr : A.frames = some (env :: outer)) (hf : env.frame = some L) (ne : L' ≠ L) (hh : HandSPX.HeldZ B (env :: outer) e Z L' z.heap)
    (hQ : ∀ h', HandSPX.HeldZ B (env :: outer) e Z L h' → z.heap.UpToSlots h' → Q () { z with heap := h' }) : wpAny M A (noteFrame (.ref e) env) Q E z := by
  obtain ⟨kb, en, fl, oe, vs, T, oT, ts, he, hz, hd, h1, nT, Te, hT, dT, h3⟩ := hh
  unfold noteFrame
  simp only [hf]
  refine wpAny_bind (wpAny_field he hd h1 ?_); rw [if_pos (show (Value.ref T != Value.none) = true from by simp)]
  refine wpAny_bind (wpAny_field hT dT h3 ?_)
  rw [if_neg (show ¬ ((rawInt L' == rawInt L) = true) from fun q => ne (Int.ofNat.inj (by simpa [rawInt] using q)))]
  refine wpAny_bind (wpAny_setField hT dT (Array.getElem?_eq_some_iff.mp h3).1 ?_)
  have oth : ∀ b, b ≠ T → (z.heap.update T (Obj.mapFields (·.setIfInBounds 3 Value.none))).get? b = z.heap.get? b := fun b hb => Heap.get?_update_other _ _ (Ne.symm hb)
  have nr : ∀ b o, z.heap.get? b = some o → (∀ vs, o.data ≠ .fields vs) → b ≠ T := fun b o hb nf q => by
    rw [q, hT] at hb; injection hb with hb; subst hb; exact nf ts dT
  refine HandSPX.wpAny_entryZ hZ hfr (fl.of_keeps fun b o hb nf => ⟨o, (oth b (nr b o hb nf)).trans hb, rfl⟩) hf ((oth e (Ne.symm Te)).trans he)
    (fun b o hbo => (oth b fun q => by rw [q, nT] at hbo; cases hbo).trans (kb b o hbo)) en hd (Array.getElem?_eq_some_iff.mp h1).1 hz fun h' hN => ?_
  obtain ⟨x1, x2, x3, x4⟩ := hN
  exact hQ h' ⟨x1, en, x2, x3⟩ fun b o hb nf => x4 b o ((oth b (nr b o hb nf)).trans hb) nf
end
theorem funFrames_at {h h' B B' : Heap} : ∀ {l : List Env}, h.FunFrames B l → (∀ b ∈ frs l, h'.get? b = h.get? b) → (∀ b ∈ frs l, B'.get? b = none) → h'.FunFrames B' l
  | [], _, _, _ => trivial
  | env :: l, ⟨hk, ⟨L, o, hf, _, ho, hd⟩, hr⟩, k, n =>
    have m : L ∈ frs (env :: l) := List.mem_filterMap.mpr ⟨env, List.mem_cons_self, hf⟩
    have up : ∀ b ∈ frs l, b ∈ frs (env :: l) := fun b hb => by
      obtain ⟨e, he, q⟩ := List.mem_filterMap.mp hb; exact List.mem_filterMap.mpr ⟨e, List.mem_cons_of_mem _ he, q⟩
    ⟨hk, ⟨L, o, hf, n L m, (k L m).trans ho, hd⟩, funFrames_at hr (fun b hb => k b (up b hb)) fun b hb => n b (up b hb)⟩
section
variable {X : Cx}
/-- an exception in a block's air is, the block left, one in the air around it -/
theorem blk_air {z3 : Shared} {G3 : Hp} {sc : Scope} {ce : Env} {fp : List Addr} {pz : List (Addr × Obj)} {sg : L2.St} {W : WX} {Q : Value → Shared → Prop} {acc : Value}
    (hs : X.stack = X.env :: X.outer) (hf : X.env.frame = some X.env.locals) (hcf : ce.frame = X.env.frame) (tk : L2.Takes X W) (K3 : Inv X pz sg G3 z3) (f3 : ∀ b ∈ fp, FpOk X pz G3 b) (lc : ce.locals = z3.heap.objs.size) :
    L2.Takes ((X.blk z3 G3 sc ce fp).wish (notedBy (model X.prog X.w) X.A ce fun x s' => blkEnd (model X.prog X.w) X.A X.xe Q acc ce (.error x) s')) (fun cls d _ H => W cls d sg H) := by
  rintro u s' ⟨a, B, sI, pn, sg', H', cls, d, rfl, J', nb, up, sky, na, os, ag, w⟩
  have J : Inv (X.blk z3 G3 sc ce fp) pn sg' H' sI := J'.unwish
  have nb : ∀ b o, sI.heap.get? b = some o → b ∉ frs X.stack → B.get? b = some o := nb
  have w : W cls d sg H' := w
  show wpAny _ X.A (noteFrame (.ref a) ce) _ _ _
  rw [note_env hcf]
  have hfr : X.A.frames = some (X.env :: X.outer) := by rw [K3.ok.frames, hs]
  have sky' : Sky B (X.env :: X.outer) a (Zc cls d) ce.locals s'.heap := by rw [← hs]; exact sky
  have nC : ce.locals ≠ X.env.locals := by rw [lc]; exact Nat.ne_of_gt K3.lt
  have nfC : ce.locals ∉ frs X.stack := fun hm => by
    obtain ⟨_, o, e, _⟩ := K3.stack.mem hm
    have := Heap.lt_size e
    rw [lc] at this
    exact absurd this (Nat.lt_irrefl _)
  have fin : ∀ h1, HandSPX.HeldZ B (X.env :: X.outer) a (Zc cls d) X.env.locals h1 → s'.heap.UpToSlots h1 → blkEnd (model X.prog X.w) X.A X.xe Q acc ce (.error (.ref a)) { s' with heap := h1 } := by
    intro h1 hh up1
    have J3 : Inv (X.blk z3 G3 sc ce fp) pn sg' H' { s' with heap := h1 } := J.landed nb hh.1 (up.trans up1) os ag
    obtain ⟨m, hm, _⟩ := J3.loc
    obtain ⟨mI, hmI, _⟩ := J.loc
    have hmI : sI.heap.Ns ce.locals mI := hmI
    obtain ⟨oC, _, _, eC, _⟩ := id hmI
    have BC := nb _ _ eC nfC
    refine ⟨m, hm, fun h' sb => ?_⟩
    have sb : Heap.SameBut ce.locals h1 h' := sb
    obtain ⟨k1, k2, k3, oe, vs, T, oT, ts, he, hz, hd, e1, nT, Te, hT, dT, e3⟩ := hh
    have aC : a ≠ ce.locals := fun q => by rw [q, BC] at k2; cases k2
    have TC : T ≠ ce.locals := fun q => by rw [q, BC] at nT; cases nT
    have he' : h'.get? a = some oe := (sb.2 a aC).trans he
    have hB : ∀ b o, (PySem.W.hideAll B [ce.locals]).get? b = some o → b ≠ ce.locals := fun b o e q => by
      rw [q, PySem.W.hideAll_none _ (by simp)] at e; cases e
    have nB : ∀ b, B.get? b = none → (PySem.W.hideAll B [ce.locals]).get? b = none := fun b n => by
      cases q : (PySem.W.hideAll B [ce.locals]).get? b with
      | none => rfl
      | some o =>
        have y := PySem.W.of_hideAll _ q
        rw [n] at y; cases y
    have sky2 : HandSPX.HeldZ (PySem.W.hideAll B [ce.locals]) (X.env :: X.outer) a (Zc cls d) X.env.locals h' :=
      ⟨fun b o e => (sb.2 b (hB b o e)).trans (k1 b o (PySem.W.of_hideAll _ e)), nB _ k2,
        funFrames_at k3 (fun b hb => sb.2 b fun q => nfC (by rw [hs, ← q]; exact hb)) (fun b hb => nB _ (k3.mem hb).1),
        oe, vs, T, oT, ts, he', hz, hd, e1, nB _ nT, Te, (sb.2 T TC).trans hT, dT, e3⟩
    have K7 : Inv X pz sg H' sI := K3.call' (ch := fp) J.os J.base J.hok J.bare fun b hb => ⟨(f3 b hb).2.2.2.1, (f3 b hb).2.1, (f3 b hb).2.2.2.2.1, (f3 b hb).2.2.2.2.2⟩
    have fC : FpOk X pz H' z3.heap.objs.size := K3.fpOk (Nat.le_refl _) (lc ▸ (show H' ce.locals = none from J.free))
    rw [← lc] at fC
    obtain ⟨a0, a1, _, a3, a4, a5⟩ := fC
    have I2 : Inv X pz sg H' { sI with heap := PySem.W.hideAll sI.heap [ce.locals], toks := sI.toks } := K7.turned (fun b o hb e => PySem.W.hideAll_get _ e (by simp [hb])) a0 a1 a3 a4 a5
    have upA : (PySem.W.hideAll sI.heap [ce.locals]).UpToSlots h' := fun b o e nf => by
      have bC : b ≠ ce.locals := fun q => by
        rw [q, PySem.W.hideAll_none _ (by simp)] at e; cases e
      obtain ⟨sl, q⟩ := (up.trans up1) b o (PySem.W.of_hideAll _ e) nf
      exact ⟨sl, (sb.2 b bC).trans q⟩
    have last : wpAny (model X.prog X.w) X.A (setFlight (.ref a) ce.frame) (fun _ s4 => wpAny (model X.prog X.w) X.A (throw (.ref a) : Sem Value) (fun _ _ => False) X.xe s4) X.xe { s' with heap := h' } := by
      rw [hcf, hf]
      refine HandSPX.setFlight_onZ sky2 fun h4 hh4 up4 => wpAny_throw (tk _ _ ?_)
      exact ⟨a, PySem.W.hideAll B [ce.locals], _, pz, sg, H', cls, d, rfl, I2, fun b o e hb => PySem.W.hideAll_get _ (nb b o (PySem.W.of_hideAll _ e) hb) (by
        intro q
        have q : b = ce.locals := by simpa using q
        rw [q, PySem.W.hideAll_none _ (by simp)] at e; cases e), upA.trans up4, .inr (.inr (by rw [hs]; exact hh4)), na, os, ag, w⟩
    unfold PySem.passOn
    refine wpAny_bind (wpAny_field he' hd e1 ?_); rw [if_neg (show ¬ ((Value.ref T == Value.none) = true) from by simp)]
    first
      | exact wpAny_bind (wpAny_pure (wpAny_bind last))
      | exact wpAny_bind last
  rcases sky' with ⟨kB, hn, fl, oe, vs, he, hz, hd, e1⟩ | fl | hh
  · exact HandSPX.look_newZ Zc.steady hfr fl hf he kB hn hd e1 hz fin
  · (exact HandSPX.looks_onZ Zc.steady hfr hf fl fin)
  · exact looks_heldZ Zc.steady hfr hf nC hh fin
end
end Cc

/-! [.. for ..] whose element may raise (one clause). -/
namespace Cc
open PySem PySem.Spec PyProof.Rows L2
open LamX
section
variable {X : Cx}
theorem pe_lcX {el ta ia : Expr} {fs : List Expr} {sc : Scope} {own : List (Str × Nat)} {ps : Pos} {wi : TI} {g : TG} {tt : TT} {te : WX → L2.St → TE} {Wx : WX} (hc : X.calm = true) (hN : X.N.Nodup) (hst : X.stack = X.env :: X.outer) (hf : X.env.frame = some X.env.locals) (tk : L2.Takes X Wx)
    (hi : PI X ta ia wi) (ok : BlkOk X.N X.env.scope sc own)
    (hg : ∀ (s : Shared) (H : Hp) (C : Addr) (cl : List (Str × Addr)) (fp : List Addr), PG (X.blk s H sc (compEnvC sc cl C X.env) fp) ta g)
    (ht : ∀ (s : Shared) (H : Hp) (C : Addr) (cl : List (Str × Addr)) (fp : List Addr), PTs (X.blk s H sc (compEnvC sc cl C X.env) fp) fs tt)
    (he : ∀ (pins : List (Addr × Obj)) (σ : L2.St) (s : Shared) (H : Hp) (C : Addr) (cl : List (Str × Addr)) (fp : List Addr) (xe : Value → Shared → Prop), Inv X pins σ H s → (∀ b ∈ fp, FpOk X pins H b) →
      L2.Takes ((X.blk s H sc (compEnvC sc cl C X.env) fp).wish xe) (fun cls d _ G => Wx cls d σ G) → PE ((X.blk s H sc (compEnvC sc cl C X.env) fp).wish xe) el (te (fun cls d _ G => Wx cls d σ G) σ))
    (hs : ∀ x, foldedSetIterable ia X.env x = pure x := by intro _; rfl) :
    PE X (.ListComp el [⟨ta, ia, fs, 0⟩] sc ps) (fun σ H Q => tLc wi g tt (te (fun cls d _ G => Wx cls d σ G) σ) (own.map (·.2)) σ H Q) := by
  refine ⟨fun pz z0 sg G0 Qq K0 h => ?_⟩
  rw [eval_ListComp]
  have frees : ∀ y ∈ sc.names, y.2 = .free → ∃ c, X.env.cells.lookup y.1 = some c := fun y hy e => K0.ok.has _ (ok.free y hy e)
  refine wp_compR rfl hs (closure_ok frees) ok.kind (fun y hy e => (ok.uniq y hy).trans (congrArg some e)) (thn (hi.run pz z0 sg G0 _ K0 h) fun _ z1 h1 => thn h1 fun iv z2 h2 => ?_)
  obtain ⟨it, fp, tn, Jt, G2, rfl, K2, T, t2, f2, q⟩ := h2
  refine wpAny_newObj_type (newEnv_comp ?_) (by show 0 ≤ sizeLine; decide); obtain ⟨D, hD⟩ : ∃ D, D = z2.heap.objs.size := ⟨_, rfl⟩
  rw [← hD]
  have freeD : G2 D = none := K2.hok.fresh (Nat.le_of_eq hD.symm)
  obtain ⟨W, ⟨m0, w0⟩, turn⟩ := q D freeD
  obtain ⟨z3, hz3⟩ : ∃ z3 : Shared, z3 = { z2 with heap := z2.heap.push { cls := .type "list", data := .seq ([] : List Value).toArray } } := ⟨_, rfl⟩
  have p3 : z3.heap = z2.heap.push { cls := .type "list", data := .seq ([] : List Value).toArray } := by rw [hz3]
  have keep3 : ∀ b o, z2.heap.get? b = some o → z3.heap.get? b = some o := fun b o e => by
    rw [p3]
    exact Heap.get?_push_of_some (h := z2.heap) _ e
  have K3 : Inv X pz sg (upd G2 D (.lst [])) z3 := by
    rw [hz3]
    refine K2.laid (t' := z2.toks) (fun b o e => Heap.get?_push_of_some _ e) (Nat.le_of_eq hD.symm) ⟨Nat.zero_le _, [], 0, .nil, ?_⟩
    rw [hD]
    exact Heap.get?_push_size z2.heap rfl
  have old : ∀ b ∈ fp, b < z2.heap.objs.size := fun b hb => (T.obj _ _ t2 b hb).elim fun _ e => Heap.lt_size e.1
  have f3 : ∀ b ∈ fp, FpOk X pz (upd G2 D (.lst [])) b ∧ b < z3.heap.objs.size := fun b hb =>
    ⟨⟨by rw [upd_ne (by rw [hD]; exact Nat.ne_of_lt (old b hb))]; exact (f2 b hb).1, (f2 b hb).2⟩, by rw [p3, Heap.size_push]; exact Nat.lt_succ_of_lt (old b hb)⟩
  have K4 := block_start K3 ok hN f3
  have Bg := hg z3 (upd G2 D (.lst [])) z3.heap.objs.size (cellsFrom (z3.heap.objs.size + 1) sc.names (cloFrom X.env.cells sc.names [])) fp
  have Bt := ht z3 (upd G2 D (.lst [])) z3.heap.objs.size (cellsFrom (z3.heap.objs.size + 1) sc.names (cloFrom X.env.cells sc.names [])) fp
  have Be := fun xe => he pz sg z3 (upd G2 D (.lst [])) z3.heap.objs.size (cellsFrom (z3.heap.objs.size + 1) sc.names (cloFrom X.env.cells sc.names [])) fp xe K3 fun b hb => (f3 b hb).1
  have goal : codeAny (model X.prog X.w) X.A (.compStart (.ListComp el [⟨ta, ia, fs, 0⟩] sc ps) 0 (.ref it) (.ref D) (compEnvC sc (cellsFrom (z3.heap.objs.size + 1) sc.names (cloFrom X.env.cells sc.names [])) z3.heap.objs.size X.env))
      (blkEnd (model X.prog X.w) X.A X.xe (EP X pz sg Qq) (.ref D) (compEnvC sc (cellsFrom (z3.heap.objs.size + 1) sc.names (cloFrom X.env.cells sc.names [])) z3.heap.objs.size X.env)) { z3 with heap := pushCells (z3.heap.push { cls := .type "dict", data := .dict #[] }) sc.names } := by
    obtain ⟨ce, hce⟩ : ∃ ce, ce = compEnvC sc (cellsFrom (z3.heap.objs.size + 1) sc.names (cloFrom X.env.cells sc.names [])) z3.heap.objs.size X.env := ⟨_, rfl⟩
    rw [← hce] at K4 Bg Bt Be ⊢
    have lc : ce.locals = z3.heap.objs.size := by rw [hce]; rfl
    have hcf : ce.frame = X.env.frame := by rw [hce]; rfl
    obtain ⟨G3, hG3⟩ : ∃ G3, G3 = upd G2 D (.lst []) := ⟨_, rfl⟩
    rw [← hG3] at K3 K4 Bg Bt Be w0 f3
    have nf3 : ∀ b ∈ fp, G3 b = none := fun b hb => (f3 b hb).1.1
    have air := blk_air (sc := sc) (Q := EP X pz sg Qq) (acc := .ref D) hst hf hcf tk K3 (fun b hb => (f3 b hb).1) lc
    have Be := Be _ air
    obtain ⟨z4, hz4⟩ : ∃ z4 : Shared, z4 = { z3 with heap := pushCells (z3.heap.push { cls := .type "dict", data := .dict #[] }) sc.names } := ⟨_, rfl⟩
    rw [← hz4] at K4 ⊢
    have t4 : tn 0 z4.heap := T.keep _ _ _ t2 fun b _ o e => by
      rw [hz4]
      exact pushCells_keeps _ _ _ _ (Heap.get?_push_of_some _ (keep3 b o e))
    have fpk : ∀ {sg' : L2.St} {G' : Hp} {z' : Shared}, Inv (X.blk z3 G3 sc ce fp) [] sg' G' z' → (∀ b ∈ fp, G' b = none) → ∀ b ∈ fp, FpOk (X.blk z3 G3 sc ce fp) [] G' b := fun Kk hn b hb =>
      ⟨hn b hb, (Kk.ok.exf b hb).1, Kk.ok.exfs b hb, .inl hb, fun x c e => (Kk.ok.exf b hb).2 x c e, fun p hp => by simp at hp⟩
    have loop : codeAny (model X.prog X.w) X.A (.compLoop (.ListComp el [⟨ta, ia, fs, 0⟩] sc ps) 0 (.ref it) (.ref D) ce) (blkEnd (model X.prog X.w) X.A X.xe (EP X pz sg Qq) (.ref D) ce) z4 := by
      refine compLoop_any (fun n z => ∃ i G, Inv (X.blk z3 G3 sc ce fp) [] (wipe sg (own.map (·.2))) G z ∧ tn i z.heap ∧ (∀ b ∈ fp, G b = none) ∧ W i n G) ?_ m0 ⟨0, G3, K4, t4, nf3, w0⟩
      rintro n z5 ⟨i, G5, K5, t5, n5, w5⟩
      rcases turn i n G5 w5 with ⟨halt, qq⟩ | ⟨go, Nx, hNx, step⟩
      · refine thnF (T.done (X.blk z3 G3 sc ce fp) rfl rfl rfl hc i [] z5 _ G5 (fun _ _ => False) K5 (fpk K5 n5) t5 halt) fun r z6 ⟨hr, K6⟩ => ?_
        subst hr
        have K7 : Inv X pz sg G5 z6 := K3.call' (ch := fp) K6.os K6.base K6.hok K6.bare fun b hb => ⟨(f3 b hb).1.2.2.2.1, (f3 b hb).1.2.1, (f3 b hb).1.2.2.2.2.1, (f3 b hb).1.2.2.2.2.2⟩
        have nC : G5 z3.heap.objs.size = none := lc ▸ (show G5 ce.locals = none from K6.free)
        obtain ⟨m, hm, _⟩ := K6.loc
        have ff := K3.fpOk (Nat.le_refl _) nC
        rw [← lc] at ff
        refine ⟨m, hm, fun h'' sb => ?_⟩
        obtain ⟨a0, a1, _, a3, a4, a5⟩ := ff
        exact ⟨.ref D, G5, K7.turned (t' := z6.toks) (fun b o hb e => (sb.2 b hb).trans e) a0 a1 a3 a4 a5, rfl, qq⟩
      · refine thnF (T.item (X.blk z3 G3 sc ce fp) rfl rfl rfl hc i [] z5 _ G5 (fun _ _ => False) K5 (fpk K5 n5) t5 go) fun r z6 ⟨u, hr, h6⟩ => ?_
        subst hr
        refine thnF h6 fun _ z7 ⟨x, G7, K7, r7, y7, t7, n7⟩ => ?_
        refine thnF (Bg.run _ z7 _ G7 x u _ (K7.pinned (fpk K7 n7) (T.obj _ _ t7)) r7 (step x G7 y7)) fun _ z8 ⟨sg8, G8, K8, w8, q8⟩ => ?_
        refine thnF (Bt.run _ z8 sg8 G8 _ K8 q8) fun b z9 ⟨G9, K9, q9⟩ => ?_
        have fin : ∀ {z' : Shared} {G' : Hp}, Inv (X.blk z3 G3 sc ce fp) ([] ++ pinsAt fp z7.heap) sg8 G' z' → Nx G' → ∃ m, m < n ∧ ∃ i G, Inv (X.blk z3 G3 sc ce fp) [] (wipe sg (own.map (·.2))) G z' ∧ tn i z'.heap ∧ (∀ b ∈ fp, G b = none) ∧ W i m G := fun {z' G'} Kk nx => by
          obtain ⟨m', lt, w'⟩ := hNx G' nx
          have pin : ∀ b ∈ fp, ∀ o, z7.heap.get? b = some o → z'.heap.get? b = some o ∧ G' b = none := fun b hb o e =>
            let y := Kk.pin (b, o) (List.mem_append_right _ (List.mem_append_right _ (mem_pinsAt hb e)))
            ⟨y.1, y.2.1⟩
          refine ⟨m', lt, i + 1, G', (Kk.unpinned (pins := [])).weak (by rw [← w8, wipe_length]) (fun j v e => by rw [← w8] at e; exact (wipe_some e).1), T.keep _ _ _ t7 fun b hb o e => (pin b hb o e).1, fun b hb => ?_, w'⟩
          obtain ⟨o, e, _⟩ := T.obj _ _ t7 b hb
          exact (pin b hb o e).2
        cases b with
        | false =>
          simp only [Bool.false_eq_true, if_false] at q9 ⊢; exact fin K9 q9
        | true =>
          simp only [if_true] at q9 ⊢
          refine thn (Be.run _ z9 sg8 G9 _ (K9.wish _) q9) fun v z10 ⟨y, G10, K10, r10, acc, eD, room, nx⟩ => ?_
          exact app_ok (X := X.blk z3 G3 sc ce fp) K10.unwish eD room r10 fun z11 K11 => fin K11 nx
    exact codeAny_compStart_list loop (T.self X.A 0 _ _ _ t4 loop)
  exact hz3 ▸ goal
end
end Cc

/-! try: .. except C: statement; raise -/
namespace Cc
open PySem PySem.Spec PyProof.Rows L2
open LamX
section
variable {X : Cx} {σ : L2.St} {H : Hp} {s : Shared} {pins : List (Addr × Obj)}
/-- untracked objects that were not there at the entry are taken away -/
theorem inv_hide {ch : List Addr} (I : Inv X pins σ H s) (h0 : ∀ b ∈ ch, X.s_0.heap.get? b = none) (hL : ∀ b ∈ ch, b ≠ X.env.locals) (hC : ∀ b ∈ ch, ∀ x c, X.env.cells.lookup x = some c → c ≠ b)
    (hP : ∀ b ∈ ch, ∀ p ∈ X.pn ++ pins, p.1 ≠ b) (hn : ∀ b ∈ ch, H b = none) : Inv X pins σ H { s with heap := PySem.W.hideAll s.heap ch } := by
  have stays : ∀ {b o}, b ∉ ch → s.heap.get? b = some o → (PySem.W.hideAll s.heap ch).get? b = some o := fun n e => PySem.W.hideAll_get _ e n
  have early : ∀ {b o}, X.s_0.heap.get? b = some o → b ∉ ch := fun e m => nomatch (h0 _ m).symm.trans e
  have boxes : ∀ {y k v}, X.env.cells.lookup y = some k → s.heap.IsCell k v → (PySem.W.hideAll s.heap ch).IsCell k v := fun e ⟨o, ho, hd⟩ => ⟨o, stays (fun m => hC _ m _ _ e rfl) ho, hd⟩
  have told : ∀ {k v}, H k = some v → k ∉ ch := fun e m => nomatch (hn _ m).symm.trans e
  refine ⟨I.ok, I.os, I.bare, ⟨fun b o e n f y => stays (early e) (I.base.keep b o e n f y), fun b o e n f y => (I.base.slot b o e n f y).imp fun _ q => stays (early e) q, I.base.free, fun b o e y => (I.base.there b o e y).imp fun _ q => stays (early e) q, I.base.tups, I.base.frzs, I.base.tbls⟩,
    I.loc.imp fun m h => ⟨h.1.imp fun o h1 => h1.imp fun es h2 => h2.imp fun ep h3 => ⟨stays (fun m2 => hL _ m2 rfl) h3.1, h3.2⟩, fun k y v e1 e2 e3 => (h.2 k y v e1 e2 e3).imp fun u hu => ⟨hu.1, hu.2.imp id fun w => ⟨w.1, w.2.imp fun _ w => ⟨w.1, boxes w.1 w.2⟩⟩⟩⟩,
    fun y k e => (I.cell y k e).imp fun _ => boxes e, I.free, I.freeC, fun p hp => ⟨stays (fun m => hP _ m p hp rfl) (I.pin p hp).1, (I.pin p hp).2⟩,
    fun b u e => (I.hok b u e).stay (fun k v hk q => stays (hk.elim (fun z => z ▸ told e) fun z => told z) q) (fun _ q => q) fun _ _ q => q, I.len⟩
/-- one more that is pinned -/
theorem inv_morePin {T : Addr} {oT : Obj} {ts : Array Value} (I : Inv X pins σ H s) (hT : s.heap.get? T = some oT) (dT : oT.data = .fields ts) (nT : H T = none) (nL : T ≠ X.env.locals) (nF : T ∉ X.fs) : Inv X (pins ++ [(T, oT)]) σ H s :=
  ⟨I.ok, I.os, I.bare, I.base, I.loc, I.cell, I.free, I.freeC, fun p hp => (List.append_assoc X.pn pins [(T, oT)] ▸ hp : p ∈ (X.pn ++ pins) ++ [(T, oT)]) |> fun m => (List.mem_append.mp m).elim (I.pin p) fun m => by
    obtain rfl := List.mem_singleton.mp m
    exact ⟨hT, nT, nL, nF, fun v z => nomatch dT.symm.trans z⟩, I.hok, I.len⟩
theorem inv_lessPin {q : List (Addr × Obj)} (I : Inv X (pins ++ q) σ H s) : Inv X pins σ H s :=
  ⟨I.ok, I.os, I.bare, I.base, I.loc, I.cell, I.free, I.freeC, fun p hp => I.pin p (List.append_assoc X.pn pins q ▸ List.mem_append_left q hp), I.hok, I.len⟩
end
/-- a statement's ends where it must go on -/
def goesOn (Q : L2.St → Hp → Prop) : Ends := { nx := Q, rt := fun _ _ => False }
/-- what 'except C: statement; raise' wishes of an exception of the body -/
def wAgain (K : PySem.W.Frag) (c : Value) (ts : TS) (Wout : WX) : WX := fun cls d σ H =>
  ∃ b, PySem.W.exmOne K cls c = some b ∧ (b = true → ts (goesOn fun σ' H' => Wout cls d σ' H') σ H) ∧ (b = false → Wout cls d σ H)
section
variable {X : Cx} {B h3 : Heap} {a e : Addr} {x : Str} {c cls : Value} {d : Option Addr} {b : Bool} {np pos' : Pos} {b₀ : Stmt} {suite : List Stmt} {pins : List (Addr × Obj)} {σ' : L2.St} {H' : Hp} {z : Shared} {Z : Obj → Prop} {Q : Flow → Shared → Prop} {Wout : WX}
/-- what has fields is no frame at hand -/
theorem off_frames {h : Heap} {o : Obj} {vs : Array Value} (ff : h.FunFrames B (X.env :: X.outer)) (at_ : h.get? e = some o) (dd : o.data = .fields vs) : e ∉ frs (X.env :: X.outer) := fun m => by
  obtain ⟨_, _, q, n⟩ := ff.mem m
  cases at_.symm.trans q
  exact n vs dd
theorem off_locals (hf : X.env.frame = some X.env.locals) (n : e ∉ frs (X.env :: X.outer)) : e ≠ X.env.locals := fun q => n (q ▸ List.mem_filterMap.mpr ⟨_, .head _, hf⟩)
theorem off_outer (n : e ∉ frs (X.env :: X.outer)) : e ∉ X.fs := fun m => n ((List.mem_filterMap.mp m).elim fun y hy => List.mem_filterMap.mpr ⟨y, .tail _ hy.1, hy.2⟩)
/-- the exception at a is judged by one clause -/
theorem judged (hf : X.env.frame = some X.env.locals) (hc : Names X x c) (hpa : ∀ hd : Option Value, PassesOwnAt (model X.prog X.w) (X.A.mark hd) X.A X.env X.xe) (zc : ∀ o, Z o → Zc cls d o) (J : Inv X pins σ' H' { z with heap := h3 }) (fl : HandSPX.FlyingZ B (X.env :: X.outer) a Z h3) (na : H' a = none) (hb : PySem.W.exmOne X.K cls c = some b)
    (no : b = false → wpAny (model X.prog X.w) X.A (handleBy (.ref a) X.env []) Q X.xe { z with heap := h3 }) (yes : b = true → ∀ h4, HandSPX.FlyingZ B (X.env :: X.outer) a Z h4 → h3.UpToSlots h4 → wpAny (model X.prog X.w) (X.A.mark (some (.ref a))) (execs (b₀ :: suite) X.env) Q X.xe { z with heap := h4 }) :
    wpAny (model X.prog X.w) X.A (handleBy (.ref a) X.env [.ExceptHandler (some (.Name x np)) none (b₀ :: suite) pos']) Q X.xe { z with heap := h3 } := by
  obtain ⟨oe, vs, at_, hz, dd⟩ := fl.there
  have off := off_frames fl.2.2.1 at_ dd
  have S := J.suite at_ dd na (off_locals hf off) (off_outer off)
  have kind := PySem.W.exm_one (M := model X.prog X.w) J.kIn (e := a) (h := h3) (fun _ _ _ _ k q => wpAny_typeOf_ref (k _ _ at_) (by rw [(zc _ hz).1]; exact q)) hb
  have found : ∀ {R E : Value → Shared → Prop}, R c { z with heap := h3 } → wpAny (model X.prog X.w) (X.A.mark (some (.ref a))) (eval (.Name x np) X.env) R E { z with heap := h3 } := fun q => match hc with
    | ⟨g, n, .inl m⟩ => ld_glob (X := X.suite a ((a, oe) :: (X.pn ++ pins))) S g m q n
    | ⟨g, n, .inr ⟨m, v, w⟩⟩ => ld_blt (X := X.suite a ((a, oe) :: (X.pn ++ pins))) S g m v q w n
  refine wpAny_handleBy_cons (codeAny_handlers_test (found (kind.here ?_))) fun q => nomatch q
  cases b
  · exact no rfl
  · exact codeAny_handlers_suite (HandSPX.lands_againZ fl fun h4 f4 u4 => wpAny_mono (yes rfl h4 f4 u4) (fun _ _ q => q) (hpa (some (.ref a))))
/-- it goes on, as no clause takes it -/
theorem goes_out {sI : Shared} (hs : X.stack = X.env :: X.outer) (hf : X.env.frame = some X.env.locals) (tk : L2.Takes X Wout) (J : Inv X pins σ' H' sI) (nb : ∀ b o, sI.heap.get? b = some o → b ∉ frs X.stack → B.get? b = some o) (up : sI.heap.UpToSlots h3) (fl : HandSPX.FlyingZ B (X.env :: X.outer) a (Zc cls d) h3)
    (na : H' a = none) (os : z.os = sI.os) (ag : AllBare z.gens) (w : Wout cls d σ' H') : wpAny (model X.prog X.w) X.A (handleBy (.ref a) X.env []) Q X.xe { z with heap := h3 } := by
  have out : wpAny (model X.prog X.w) X.A (setFlight (.ref a) X.env.frame) (fun _ s4 => wpAny (model X.prog X.w) X.A (throw (.ref a) : Sem Flow) Q X.xe s4) X.xe { z with heap := h3 } :=
    hf ▸ HandSPX.setFlight_upZ fl fun h4 held u4 => wpAny_throw (tk _ _ ⟨a, B, sI, pins, σ', H', cls, d, rfl, J, nb, up.trans u4, .inr (.inr (hs ▸ held)), na, os, ag, w⟩)
  obtain ⟨_, _, _, oe, vs, T, _, _, at_, _, dd, tr, _⟩ := id fl
  refine wpAny_handleBy_nil ?_
  unfold PySem.passOn
  refine wpAny_bind (wpAny_field at_ dd tr ?_)
  have some_ : (Value.ref T == Value.none) = false := rfl
  simp only [some_, Bool.false_eq_true, if_false]
  first | exact wpAny_bind out | exact wpAny_bind (wpAny_pure (wpAny_bind out))
/-- raise, within a suite: the exception at a, whose trace stands at T, goes on -/
theorem raised_again {rp : Pos} {oe oT : Obj} {vs ts : Array Value} {T : Addr} {z6 : Shared} (hf : X.env.frame = some X.env.locals) (pa : z6.heap.get? a = some oe) (da : oe.data = .fields vs) (tr : vs[1]? = some (.ref T)) (pT : z6.heap.get? T = some oT) (dT : oT.data = .fields ts) (lt : 3 < ts.size)
    (k : X.xe (.ref a) { z6 with heap := z6.heap.update T (Obj.mapFields (·.setIfInBounds 3 (rawInt X.env.locals))) }) : wpAny (model X.prog X.w) (X.A.mark (some (.ref a))) (execs [.Raise none none rp] X.env) Q X.xe z6 := by
  have is_ : (Value.ref T == Value.none) = false := rfl
  have out : wpAny (model X.prog X.w) (X.A.mark (some (.ref a))) (setFlight (.ref a) (some X.env.locals)) (fun _ z7 => X.xe (.ref a) z7) X.xe z6 := by
    unfold setFlight
    refine wpAny_bind (wpAny_field pa da tr ?_)
    simp only [bne, is_, Bool.not_false, if_true]
    exact wpAny_setField pT dT lt k
  refine wpAny_execs_cons ?_
  rw [arm_exec_Raise]
  refine wpAny_bind (wpAny_standAt (show wpAny _ _ (raiseStmt X.env none none) _ _ _ from ?_))
  unfold raiseStmt
  dsimp only
  apply wpAny_bind; apply wpAny_handled
  (try dsimp only)
  refine wpAny_bind (wpAny_rule (wpAny_bind (wpAny_field pa da tr ?_)))
  simp only [is_, Bool.false_eq_true, if_false, hf]
  first | exact wpAny_bind (wpAny_mono out (fun _ _ => wpAny_throw) fun _ _ => id) | exact wpAny_bind (wpAny_pure (wpAny_bind (wpAny_mono out (fun _ _ => wpAny_throw) fun _ _ => id)))
end
section
variable {X : Cx} {x : Str} {c : Value} {body : List Stmt} {b₀ : Stmt} {np pos pos' rp : Pos} {tb : WX → TS} {ts : TS} {Wout : WX}
theorem ps_try_again (hs : X.stack = X.env :: X.outer) (hf : X.env.frame = some X.env.locals) (hex : X.ex = []) (hc : Names X x c) (hpa : ∀ hd : Option Value, PassesOwnAt (model X.prog X.w) (X.A.mark hd) X.A X.env X.xe) (tk : L2.Takes X Wout)
    (hb : ∀ (W : WX) (pn : List (Addr × Obj)) (xe : Value → Shared → Prop), L2N.Takes (X.tr pn xe) W → L2.Takes (X.tr pn xe) (L2H.wPass X.K c Wout) → PassesOwn (model X.prog X.w) X.A X.env xe → PSs (X.tr pn xe) body (tb W))
    (hsu : ∀ (a : Addr) (oe : Obj) (pn : List (Addr × Obj)), L2H.HotC (X.suite a ((a, oe) :: pn)) → PS (X.suite a ((a, oe) :: pn)) b₀ ts) :
    PS X (.Try body [.ExceptHandler (some (.Name x np)) none [b₀, .Raise none none rp] pos'] [] [] pos) (fun D σ H => tb (wAgain X.K c ts Wout) D σ H) := by
  refine ⟨fun pins z0 σ H D I h => wpAny_Try_except ?_⟩
  have ok := I.ok
  have hfr : X.A.frames = some (X.env :: X.outer) := ok.frames.trans (congrArg _ hs)
  refine wpAny_mono ((hb (wAgain X.K c ts Wout) (X.pn ++ pins) (fun e z1 => wpAny (model X.prog X.w) X.A (noteFrame e X.env) (fun _ z2 => wpAny (model X.prog X.w) X.A (setFlight e none) (fun _ z3 =>
    wpAny (model X.prog X.w) X.A (handleBy e X.env [.ExceptHandler (some (.Name x np)) none [b₀, .Raise none none rp] pos']) (SP X pins D) X.xe z3) X.xe z2) X.xe z1) (fun u z1 air => ?_) (fun u z1 air => ?_) PassesOwn.looking).run [] z0 σ H D (I.toTry _) h) (fun f z6 over => ?_) fun _ _ q => q
  · obtain ⟨a, B, sI, _, σ', H', cls, d, rfl, J', nb, up, sky, na, os, ag, b, hb1, hyes, hno⟩ := air
    have J := J'.ofTry ok
    have nb : ∀ b o, sI.heap.get? b = some o → b ∉ frs X.stack → B.get? b = some o := nb
    refine L2N.Sky.land L2N.Zn.steady hfr hf (hs ▸ sky : Sky B (X.env :: X.outer) a (L2N.Zn cls d) X.env.locals z1.heap) fun h3 fl up3 => ?_
    refine judged hf hc hpa (fun o q => q.zc) (J.landed nb fl.1 (up.trans up3) os ag) fl na hb1 (fun q => goes_out hs hf tk J nb (up.trans up3) (L2H.flyingZ_imp (fun o q => q.zc) fl) na os ag (hno q)) fun q h4 f4 up4 => ?_
    obtain ⟨_, freshA, k3, oe, vs, T, oT, tvs, at_, hz, da, tr, freshT, Te, atT, dT, e3⟩ := id f4
    have offA := off_frames k3 at_ da
    have offT := off_frames k3 atT dT
    have before : ∀ {y}, y ∉ frs (X.env :: X.outer) → B.get? y = none → sI.heap.get? y = none := fun {y} off fresh => by
      cases w : sI.heap.get? y with
      | none => rfl
      | some o => exact nomatch fresh.symm.trans (nb y o w (hs ▸ off))
    have sIa := before offA freshA
    have sIT := before offT freshT
    have J4 : Inv X pins σ' H' { z1 with heap := h4 } := J.landed nb f4.1 ((up.trans up3).trans up4) os ag
    have J5 := inv_morePin J4 atT dT (J.hok.gone sIT) (off_locals hf offT) (off_outer offT)
    refine wpAny_execs_cons (wpAny_mono ((hsu a oe (X.pn ++ (pins ++ [(T, oT)])) ⟨(a, oe), ⟨rfl, vs, da, hz.2.2 vs da⟩, List.mem_cons_self⟩).run [] _ _ H' _ (J5.suite at_ da na (off_locals hf offA) (off_outer offA)) (hyes q)) (fun f z6 over => ?_) fun _ _ w => w.elim)
    cases f with
    | brk => exact let ⟨_, _, _, w⟩ := over; w.elim
    | cont => exact let ⟨_, _, _, w⟩ := over; w.elim
    | ret u => exact let ⟨_, _, _, _, _, w⟩ := over; w.elim
    | next =>
      obtain ⟨σ6, H6, S6, w6⟩ := over
      obtain ⟨pa, na6, _⟩ := S6.pin (a, oe) (by simp)
      obtain ⟨pT, nT6, _⟩ := S6.pin (T, oT) (by simp)
      have I7 : Inv X pins σ6 H6 z6 := inv_lessPin (S6.unsuite ok)
      have two : ∀ y ∈ [a, T], sI.heap.get? y = none ∧ y ≠ X.env.locals ∧ H6 y = none := fun y hy => by
        rcases (by simpa using hy : y = a ∨ y = T) with w | w <;> subst w
        · exact ⟨sIa, off_locals hf offA, na6⟩
        · exact ⟨sIT, off_locals hf offT, nT6⟩
      have I8 : Inv X pins σ6 H6 { z6 with heap := PySem.W.hideAll z6.heap [a, T] } := by
        refine inv_hide I7 (fun y hy => ?_) (fun y hy => (two y hy).2.1) (fun y hy k cc e w => ?_) (fun y hy p hp w => ?_) fun y hy => (two y hy).2.2
        · cases w : X.s_0.heap.get? y with
          | none => rfl
          | some o => exact let ⟨_, w2⟩ := J.base.there y o w (hex ▸ List.not_mem_nil); nomatch (two y hy).1.symm.trans w2
        · obtain ⟨_, _, w2, _⟩ := J.cell k cc e
          rw [w] at w2
          exact nomatch (two y hy).1.symm.trans w2
        · have w2 := (J.pin p hp).1
          rw [w] at w2
          exact nomatch (two y hy).1.symm.trans w2
      have shown : ∀ {l : List Addr} {y : Addr} {o : Obj}, (PySem.W.hideAll z6.heap (a :: T :: l)).get? y = some o → y ≠ a ∧ y ≠ T ∧ z6.heap.get? y = some o := fun {l y o} e =>
        ⟨fun w => (by rw [w, PySem.W.hideAll_none _ (by simp)] at e; exact nomatch e), fun w => (by rw [w, PySem.W.hideAll_none _ (by simp)] at e; exact nomatch e), PySem.W.of_hideAll _ e⟩
      have lt : 3 < tvs.size := (Array.getElem?_eq_some_iff.mp e3).1
      have same : ∀ y, y ≠ T → (z6.heap.update T (Obj.mapFields (·.setIfInBounds 3 (rawInt X.env.locals)))).get? y = z6.heap.get? y := fun y hy => Heap.get?_update_other _ _ (Ne.symm hy)
      refine raised_again hf pa da tr pT dT lt (tk _ _ ⟨a, PySem.W.hideAll z6.heap (a :: T :: frs X.stack), _, pins, σ6, H6, cls, d, rfl, I8, fun y o e hy => ?_, fun y o e nf => ⟨o.slots, ?_⟩, .inr (.inr ⟨fun y o e => ?_, PySem.W.hideAll_none _ (by simp), ?_, ?_⟩), na6, rfl, I7.bare, w6⟩)
      · exact let ⟨y1, y2, y3⟩ := shown e; PySem.W.hideAll_get _ y3 (by simp [y1, y2, hy])
      · exact let ⟨_, y2, y3⟩ := shown e; (same y y2).trans y3
      · exact let ⟨_, y2, y3⟩ := shown e; (same y y2).trans y3
      · exact funFrames_at I7.stack (fun y hy => same y fun w => offT (hs ▸ w ▸ hy)) fun y hy => PySem.W.hideAll_none _ (by simp [hy])
      · exact ⟨oe, vs, T, _, _, (same a (Ne.symm Te)).trans pa, hz.zc, da, tr, PySem.W.hideAll_none _ (by simp), Te, Heap.get?_update_self _ pT (Obj.isFreed_of_fields (Obj.data_mapFields dT _)), Obj.data_mapFields dT _, by simp [lt]⟩
  · obtain ⟨a, B, sI, _, σ', H', cls, d, rfl, J', nb, up, sky, na, os, ag, hb1, hno⟩ := air
    have J := J'.ofTry ok
    refine L2.Sky.land Zc.steady hfr hf (hs ▸ sky : Sky B (X.env :: X.outer) a (Zc cls d) X.env.locals z1.heap) fun h3 fl up3 => ?_
    exact judged hf hc hpa (fun _ q => q) (J.landed nb fl.1 (up.trans up3) os ag) fl na hb1 (fun _ => goes_out hs hf tk J nb (up.trans up3) fl na os ag hno) fun q => nomatch q
  · cases f with
    | next => exact let ⟨_, _, J, q⟩ := over; wpAny_execs_nil ⟨_, _, J.ofTry ok, q⟩
    | brk => exact let ⟨_, _, J, q⟩ := over; ⟨_, _, J.ofTry ok, q⟩
    | cont => exact let ⟨_, _, J, q⟩ := over; ⟨_, _, J.ofTry ok, q⟩
    | ret u => exact let ⟨_, _, _, J, r, q⟩ := over; ⟨_, _, _, J.ofTry ok, r, q⟩
end
end Cc

/-! Attributes as targets; a tuple taken apart within an except suite. -/
namespace HotX
open PySem PySem.Builtin PyProof.V Sem PySem.Spec PyProof.Rows
section
variable {prog : Program} {w : World} {A : Around} {E : Value → Shared → Prop} {s : Shared}
/-- nothing is left: StopIteration, made where an exception without context is handled, is let in -/
theorem tuple_end_hot {it t x1 : Addr} {i : Nat} {items : Array Value} {Q : Option Value → Shared → Prop} (hot : HotAt A x1 s.heap) (hit : s.heap.IsTupleIter it t i) (ht : s.heap.IsTuple t items) (hx : items[i]? = none) (n1 : x1 ≠ it)
    (k : ∀ h', Heap.ExtBut it s.heap h' → Q none { s with heap := h' }) : wpAny (model prog w) A (pyNext (.ref it)) Q E s := by
  rcases hot with ⟨han, oX, fX, atX, dX, noneX⟩
  rcases ht with ⟨oT, atT, _, _, dT⟩
  rcases id hit with ⟨oI, atI, _, dI⟩
  have isRef : (Value.ref t == Value.none) = false := rfl
  unfold pyNext
  refine wpAny_bind (wpAny_attempt (wpAny_callSpecial?_slot (name := Str.ofString "__next__") hit.typeIs F.slot_tuple_iterator_next (wpAny_call_entry F.slot_tuple_iterator_next hit.typeIs F.entry_tuple_iterator_next ?_ (F.args_tuple_iterator_next_1 _))))
  refine wpAny_bind (m := field (.ref it) 0) (wpAny_field atI dI (x := .ref t) rfl (show wpAny _ _ (if (Value.ref t == Value.none) = true then _ else _) _ _ s from ?_))
  simp only [isRef, Bool.false_eq_true, if_false]
  refine wpAny_bind (m := field (.ref it) 1) (wpAny_field atI dI (x := .int i 0) rfl (wpAny_bind (m := seqItems? (.ref t)) (wpAny_seqItems atT dT ?_)))
  simp only [hx, Int.toNat_natCast]
  refine wpAny_bind (wpAny_rule (wpAny_bind (wpAny_setField atI dI (by simp) (wpAny_bind (m := newExc (.type "StopIteration") []) ?_))))
  have other : ∀ {y o}, y ≠ it → s.heap.get? y = some o → (s.heap.update it (Obj.mapFields (·.setIfInBounds 0 Value.none))).get? y = some o := fun ne e => (Heap.get?_update_other s.heap _ (Ne.symm ne)).trans e
  simp only [newExc, newTuple]
  refine wpAny_bind (wpAny_newObj_type (wpAny_bind (m := firstArgMember _ _) (wpAny_of_eq (a := Value.none) (by first | rfl | (simp only [firstArgMember]; rfl)) (wpAny_newObj_type ?_ (by size_fits)))) (by size_fits))
  refine raiseNew_hot ⟨han, oX, fX, Heap.get?_push_of_some _ (Heap.get?_push_of_some _ (other n1 atX)), dX, noneX⟩ (Nat.ne_of_lt (Heap.lt_size (Heap.get?_push_of_some _ (other n1 atX)))) (Heap.get?_push_size _ rfl) rfl (by first | (simp; done) | (simp; omega) | (simp only [Array.size_append]; simp; omega)) ?_
  refine wpAny_bind (wpAny_isInstance (b := true) (T := "StopIteration") ⟨_, Heap.get?_update_self _ (Heap.get?_push_size _ rfl) rfl, rfl⟩ isSubtype_stop (wpAny_pure (k _ fun y o ne e => ?_)))
  exact (Heap.get?_update_other _ _ (Nat.ne_of_gt (Heap.lt_size (Heap.get?_push_of_some _ (other ne e))))).trans (Heap.get?_push_of_some _ (Heap.get?_push_of_some _ (other ne e)))
/-- a tuple taken apart there -/
theorem unpack_hot {t x1 : Addr} {items : Array Value} {Q : List Value → Shared → Prop} (hot : HotAt A x1 s.heap) (ht : s.heap.IsTuple t items)
    (k : ∀ h', Heap.ExtBut s.heap.objs.size s.heap h' → Q items.toList { s with heap := h' }) : wpAny (model prog w) A (unpackItems (.ref t) items.size none) Q E s := by
  rcases hot with ⟨han, oX, fX, atX, dX, noneX⟩
  have old : ∀ {y o}, s.heap.get? y = some o → y ≠ s.heap.objs.size := fun e => Nat.ne_of_lt (Heap.lt_size e)
  have nT : t ≠ s.heap.objs.size := ht.elim fun o h => old h.1
  have whole : List.take items.size (List.drop 0 items.toList) = items.toList := List.take_of_length_le (Nat.le_refl items.toList.length)
  unfold unpackItems
  apply wpAny_bind
  unfold notIterableAtAll
  apply wpAny_bind
  refine wpAny_specialOf ht.typeIs F.slot_tuple_iter.lookup (wpAny_pure ?_)
  simp only [if_false, Bool.false_eq_true]
  refine wpAny_bind (wpAny_holding (wpAny_pyIter_tuple ht (wpAny_bind (wpAny_holding (wpAny_draw_tuple nT items.size 0 _ _ ⟨_, Heap.get?_push_size _ rfl, rfl, rfl⟩ (ht.push _) (by omega) fun h2 hit2 hs2 => ?_)))))
  rw [whole, if_neg (by simp)]
  have atX2 := (hs2.2 x1 (old atX)).trans (Heap.get?_push_of_some _ atX)
  refine wpAny_bind (wpAny_holding (tuple_end_hot ⟨han, oX, fX, atX2, dX, noneX⟩ hit2 ((ht.push _).extBut hs2.extBut nT) (by simp) (old atX) fun h3 he3 => ?_))
  simp only [Bool.false_eq_true, Option.isSome_none, if_false]
  exact wpAny_pure (k h3 fun y o ne e => he3 y o ne (hs2.extBut y o ne (Heap.get?_push_of_some _ e)))
end
end HotX
namespace Cc
open PySem PySem.Spec PyProof.Rows L2
section
variable {X : Cx} {o : Expr} {f : Str} {pos : Pos} {ta : TE}
/-- o.f = .. -/
def gAtt (K : PySem.W.Frag) (ta : TE) (f : Str) : TG := fun v σ H Q => ta σ H fun x H2 => ∃ a C dx fs, x = .ref a ∧ H2 a = some (.ins C dx fs) ∧ Cls K C ∧ NoAttr K C f ∧ fs.length < 1000 ∧ Q σ (upd H2 a (.ins C dx (putF f v fs)))
theorem pg_att (ha : PE X o ta) : PG X (.Attribute o f pos) (gAtt X.K ta f) := by
  refine ⟨fun pins s σ H v u Q I r h => ?_⟩; rw [arm_assign_Attribute]
  refine wpAny_bind (wpAny_holding (thn (ha.run pins s σ H _ I h) fun ov s1 ⟨x, H1, I1, rx, a, C, dx, fs, ex, ea, c, n, l, q⟩ => ?_))
  subst ex
  obtain rfl : ov = Value.ref a := rx; refine wpAny_bind (wpAny_standAt (wpAny_bind (wpAny_holding (setattr_ok I1 ea c n l r fun s2 I2 => ?_))))
  exact wpAny_release ⟨σ, _, I2, q⟩
theorem pg_tupH {es : List Expr} {k : Nat} {t : TGs} {n : Nat} (hc : L2H.HotC X) (h : PGs X es t) (hn : (assignEach es X.env).length = n := by rfl) (hst : (assignEach es X.env).findIdx? (·.1) = none := by rfl) :
    PG X (.Tuple es k pos) (gTup X.K n t) := by
  refine ⟨fun pins s σ H v u Q I r ⟨a, xs, ev, hq, hl, hw⟩ => ?_⟩
  subst ev
  obtain rfl : u = Value.ref a := r
  obtain ⟨its, rv, ht, _⟩ := I.tuple hq
  obtain ⟨x1, hot⟩ := hc.at I
  have size : (assignEach es X.env).length = its.toArray.size := by simp [hn, ← hl, rv.length]
  rw [arm_assign_Tuple]
  apply wpAny_bind
  apply wpAny_standAt
  unfold unpack
  rw [size, hst]
  refine wpAny_bind (wpAny_holding (HotX.unpack_hot hot ht fun h' hx => h.run pins _ σ H xs _ Q (I.kept (t' := s.toks) fun b o e => hx b o (Nat.ne_of_lt (Heap.lt_size e)) e) (by simpa using rv) hw))
end
end Cc

/-! The same where the exception is known to have no context. -/
namespace Cc
open PySem PySem.Spec PyProof.Rows L2
open LamX
section
variable {M : Model} {A : Around} {E : Value → Shared → Prop} {z : Shared} {Z : Obj → Prop} {B : Heap} {env : Env} {outer : List Env} {L L' e : Addr}
/-- noted by another frame, of the same stack -/
theorem looks_heldN {Q : Unit → Shared → Prop} (hZ : PXN.Steady1 Z) (hfr : A.frames = some (env :: outer)) (hf : env.frame = some L) (ne : L' ≠ L) (hh : HandSPX.HeldZ B (env :: outer) e Z L' z.heap)
    (hQ : ∀ h', HandSPX.HeldZ B (env :: outer) e Z L h' → z.heap.UpToSlots h' → Q () { z with heap := h' }) : wpAny M A (noteFrame (.ref e) env) Q E z := by
  obtain ⟨kb, en, fl, oe, vs, T, oT, ts, he, hz, hd, h1, nT, Te, hT, dT, h3⟩ := hh
  unfold noteFrame
  simp only [hf]
  refine wpAny_bind (wpAny_field he hd h1 ?_); rw [if_pos (show (Value.ref T != Value.none) = true from by simp)]
  refine wpAny_bind (wpAny_field hT dT h3 ?_)
  rw [if_neg (show ¬ ((rawInt L' == rawInt L) = true) from fun q => ne (Int.ofNat.inj (by simpa [rawInt] using q)))]
  refine wpAny_bind (wpAny_setField hT dT (Array.getElem?_eq_some_iff.mp h3).1 ?_)
  have oth : ∀ b, b ≠ T → (z.heap.update T (Obj.mapFields (·.setIfInBounds 3 Value.none))).get? b = z.heap.get? b := fun b hb => Heap.get?_update_other _ _ (Ne.symm hb)
  have nr : ∀ b o, z.heap.get? b = some o → (∀ vs, o.data ≠ .fields vs) → b ≠ T := fun b o hb nf q => by
    rw [q, hT] at hb; injection hb with hb; subst hb; exact nf ts dT
  refine PXN.wpAny_entryZ hZ hfr (fl.of_keeps fun b o hb nf => ⟨o, (oth b (nr b o hb nf)).trans hb, rfl⟩) hf ((oth e (Ne.symm Te)).trans he)
    (fun b o hbo => (oth b fun q => by rw [q, nT] at hbo; cases hbo).trans (kb b o hbo)) en hd (Array.getElem?_eq_some_iff.mp h1).1 hz fun h' hN => ?_
  obtain ⟨x1, x2, x3, x4⟩ := hN
  exact hQ h' ⟨x1, en, x2, x3⟩ fun b o hb nf => x4 b o ((oth b (nr b o hb nf)).trans hb) nf
end
section
variable {X : Cx}
/-- an exception in a block's air is, the block left, one in the air around it -/
theorem blk_airN {z3 : Shared} {G3 : Hp} {sc : Scope} {ce : Env} {fp : List Addr} {pz : List (Addr × Obj)} {sg : L2.St} {W : WX} {Q : Value → Shared → Prop} {acc : Value}
    (hs : X.stack = X.env :: X.outer) (hf : X.env.frame = some X.env.locals) (hcf : ce.frame = X.env.frame) (tk : L2N.Takes X W) (K3 : Inv X pz sg G3 z3) (f3 : ∀ b ∈ fp, FpOk X pz G3 b) (lc : ce.locals = z3.heap.objs.size) :
    L2N.Takes ((X.blk z3 G3 sc ce fp).wish (notedBy (model X.prog X.w) X.A ce fun x s' => blkEnd (model X.prog X.w) X.A X.xe Q acc ce (.error x) s')) (fun cls d _ H => W cls d sg H) := by
  rintro u s' ⟨a, B, sI, pn, sg', H', cls, d, rfl, J', nb, up, sky, na, os, ag, w⟩
  have J : Inv (X.blk z3 G3 sc ce fp) pn sg' H' sI := J'.unwish
  have nb : ∀ b o, sI.heap.get? b = some o → b ∉ frs X.stack → B.get? b = some o := nb
  have w : W cls d sg H' := w
  show wpAny _ X.A (noteFrame (.ref a) ce) _ _ _
  rw [note_env hcf]
  have hfr : X.A.frames = some (X.env :: X.outer) := by rw [K3.ok.frames, hs]
  have sky' : Sky B (X.env :: X.outer) a (L2N.Zn cls d) ce.locals s'.heap := by rw [← hs]; exact sky
  have nC : ce.locals ≠ X.env.locals := by rw [lc]; exact Nat.ne_of_gt K3.lt
  have nfC : ce.locals ∉ frs X.stack := fun hm => by
    obtain ⟨_, o, e, _⟩ := K3.stack.mem hm
    have := Heap.lt_size e
    rw [lc] at this
    exact absurd this (Nat.lt_irrefl _)
  have fin : ∀ h1, HandSPX.HeldZ B (X.env :: X.outer) a (L2N.Zn cls d) X.env.locals h1 → s'.heap.UpToSlots h1 → blkEnd (model X.prog X.w) X.A X.xe Q acc ce (.error (.ref a)) { s' with heap := h1 } := by
    intro h1 hh up1
    have J3 : Inv (X.blk z3 G3 sc ce fp) pn sg' H' { s' with heap := h1 } := J.landed nb hh.1 (up.trans up1) os ag
    obtain ⟨m, hm, _⟩ := J3.loc
    obtain ⟨mI, hmI, _⟩ := J.loc
    have hmI : sI.heap.Ns ce.locals mI := hmI
    obtain ⟨oC, _, _, eC, _⟩ := id hmI
    have BC := nb _ _ eC nfC
    refine ⟨m, hm, fun h' sb => ?_⟩
    have sb : Heap.SameBut ce.locals h1 h' := sb
    obtain ⟨k1, k2, k3, oe, vs, T, oT, ts, he, hz, hd, e1, nT, Te, hT, dT, e3⟩ := hh
    have aC : a ≠ ce.locals := fun q => by rw [q, BC] at k2; cases k2
    have TC : T ≠ ce.locals := fun q => by rw [q, BC] at nT; cases nT
    have he' : h'.get? a = some oe := (sb.2 a aC).trans he
    have hB : ∀ b o, (PySem.W.hideAll B [ce.locals]).get? b = some o → b ≠ ce.locals := fun b o e q => by
      rw [q, PySem.W.hideAll_none _ (by simp)] at e; cases e
    have nB : ∀ b, B.get? b = none → (PySem.W.hideAll B [ce.locals]).get? b = none := fun b n => by
      cases q : (PySem.W.hideAll B [ce.locals]).get? b with
      | none => rfl
      | some o =>
        have y := PySem.W.of_hideAll _ q
        rw [n] at y; cases y
    have sky2 : HandSPX.HeldZ (PySem.W.hideAll B [ce.locals]) (X.env :: X.outer) a (L2N.Zn cls d) X.env.locals h' :=
      ⟨fun b o e => (sb.2 b (hB b o e)).trans (k1 b o (PySem.W.of_hideAll _ e)), nB _ k2,
        funFrames_at k3 (fun b hb => sb.2 b fun q => nfC (by rw [hs, ← q]; exact hb)) (fun b hb => nB _ (k3.mem hb).1),
        oe, vs, T, oT, ts, he', hz, hd, e1, nB _ nT, Te, (sb.2 T TC).trans hT, dT, e3⟩
    have K7 : Inv X pz sg H' sI := K3.call' (ch := fp) J.os J.base J.hok J.bare fun b hb => ⟨(f3 b hb).2.2.2.1, (f3 b hb).2.1, (f3 b hb).2.2.2.2.1, (f3 b hb).2.2.2.2.2⟩
    have fC : FpOk X pz H' z3.heap.objs.size := K3.fpOk (Nat.le_refl _) (lc ▸ (show H' ce.locals = none from J.free))
    rw [← lc] at fC
    obtain ⟨a0, a1, _, a3, a4, a5⟩ := fC
    have I2 : Inv X pz sg H' { sI with heap := PySem.W.hideAll sI.heap [ce.locals], toks := sI.toks } := K7.turned (fun b o hb e => PySem.W.hideAll_get _ e (by simp [hb])) a0 a1 a3 a4 a5
    have upA : (PySem.W.hideAll sI.heap [ce.locals]).UpToSlots h' := fun b o e nf => by
      have bC : b ≠ ce.locals := fun q => by
        rw [q, PySem.W.hideAll_none _ (by simp)] at e; cases e
      obtain ⟨sl, q⟩ := (up.trans up1) b o (PySem.W.of_hideAll _ e) nf
      exact ⟨sl, (sb.2 b bC).trans q⟩
    have last : wpAny (model X.prog X.w) X.A (setFlight (.ref a) ce.frame) (fun _ s4 => wpAny (model X.prog X.w) X.A (throw (.ref a) : Sem Value) (fun _ _ => False) X.xe s4) X.xe { s' with heap := h' } := by
      rw [hcf, hf]
      refine HandSPX.setFlight_onZ sky2 fun h4 hh4 up4 => wpAny_throw (tk _ _ ?_)
      exact ⟨a, PySem.W.hideAll B [ce.locals], _, pz, sg, H', cls, d, rfl, I2, fun b o e hb => PySem.W.hideAll_get _ (nb b o (PySem.W.of_hideAll _ e) hb) (by
        intro q
        have q : b = ce.locals := by simpa using q
        rw [q, PySem.W.hideAll_none _ (by simp)] at e; cases e), upA.trans up4, .inr (.inr (by rw [hs]; exact hh4)), na, os, ag, w⟩
    unfold PySem.passOn
    refine wpAny_bind (wpAny_field he' hd e1 ?_); rw [if_neg (show ¬ ((Value.ref T == Value.none) = true) from by simp)]
    first
      | exact wpAny_bind (wpAny_pure (wpAny_bind last))
      | exact wpAny_bind last
  rcases sky' with ⟨kB, hn, fl, oe, vs, he, hz, hd, e1⟩ | fl | hh
  · exact PXN.look_newZ L2N.Zn.steady hfr fl hf he kB hn hd e1 hz fin
  · exact PXN.looks_onZ L2N.Zn.steady hfr hf fl fin
  · exact looks_heldN L2N.Zn.steady hfr hf nC hh fin
end
section
variable {X : Cx}
theorem pe_lcN {el ta ia : Expr} {fs : List Expr} {sc : Scope} {own : List (Str × Nat)} {ps : Pos} {wi : TI} {g : TG} {tt : TT} {te : WX → L2.St → TE} {Wx : WX} (hc : X.calm = true) (hN : X.N.Nodup) (hst : X.stack = X.env :: X.outer) (hf : X.env.frame = some X.env.locals) (tk : L2N.Takes X Wx)
    (hi : PI X ta ia wi) (ok : BlkOk X.N X.env.scope sc own)
    (hg : ∀ (s : Shared) (H : Hp) (C : Addr) (cl : List (Str × Addr)) (fp : List Addr), PG (X.blk s H sc (compEnvC sc cl C X.env) fp) ta g)
    (ht : ∀ (s : Shared) (H : Hp) (C : Addr) (cl : List (Str × Addr)) (fp : List Addr), PTs (X.blk s H sc (compEnvC sc cl C X.env) fp) fs tt)
    (he : ∀ (pins : List (Addr × Obj)) (σ : L2.St) (s : Shared) (H : Hp) (C : Addr) (cl : List (Str × Addr)) (fp : List Addr) (xe : Value → Shared → Prop), Inv X pins σ H s → (∀ b ∈ fp, FpOk X pins H b) →
      L2N.Takes ((X.blk s H sc (compEnvC sc cl C X.env) fp).wish xe) (fun cls d _ G => Wx cls d σ G) → PE ((X.blk s H sc (compEnvC sc cl C X.env) fp).wish xe) el (te (fun cls d _ G => Wx cls d σ G) σ))
    (hs : ∀ x, foldedSetIterable ia X.env x = pure x := by intro _; rfl) :
    PE X (.ListComp el [⟨ta, ia, fs, 0⟩] sc ps) (fun σ H Q => tLc wi g tt (te (fun cls d _ G => Wx cls d σ G) σ) (own.map (·.2)) σ H Q) := by
  refine ⟨fun pz z0 sg G0 Qq K0 h => ?_⟩
  rw [eval_ListComp]
  have frees : ∀ y ∈ sc.names, y.2 = .free → ∃ c, X.env.cells.lookup y.1 = some c := fun y hy e => K0.ok.has _ (ok.free y hy e)
  refine wp_compR rfl hs (closure_ok frees) ok.kind (fun y hy e => (ok.uniq y hy).trans (congrArg some e)) (thn (hi.run pz z0 sg G0 _ K0 h) fun _ z1 h1 => thn h1 fun iv z2 h2 => ?_)
  obtain ⟨it, fp, tn, Jt, G2, rfl, K2, T, t2, f2, q⟩ := h2
  refine wpAny_newObj_type (newEnv_comp ?_) (by show 0 ≤ sizeLine; decide); obtain ⟨D, hD⟩ : ∃ D, D = z2.heap.objs.size := ⟨_, rfl⟩
  rw [← hD]
  have freeD : G2 D = none := K2.hok.fresh (Nat.le_of_eq hD.symm)
  obtain ⟨W, ⟨m0, w0⟩, turn⟩ := q D freeD
  obtain ⟨z3, hz3⟩ : ∃ z3 : Shared, z3 = { z2 with heap := z2.heap.push { cls := .type "list", data := .seq ([] : List Value).toArray } } := ⟨_, rfl⟩
  have p3 : z3.heap = z2.heap.push { cls := .type "list", data := .seq ([] : List Value).toArray } := by rw [hz3]
  have keep3 : ∀ b o, z2.heap.get? b = some o → z3.heap.get? b = some o := fun b o e => by
    rw [p3]
    exact Heap.get?_push_of_some (h := z2.heap) _ e
  have K3 : Inv X pz sg (upd G2 D (.lst [])) z3 := by
    rw [hz3]
    refine K2.laid (t' := z2.toks) (fun b o e => Heap.get?_push_of_some _ e) (Nat.le_of_eq hD.symm) ⟨Nat.zero_le _, [], 0, .nil, ?_⟩
    rw [hD]
    exact Heap.get?_push_size z2.heap rfl
  have old : ∀ b ∈ fp, b < z2.heap.objs.size := fun b hb => (T.obj _ _ t2 b hb).elim fun _ e => Heap.lt_size e.1
  have f3 : ∀ b ∈ fp, FpOk X pz (upd G2 D (.lst [])) b ∧ b < z3.heap.objs.size := fun b hb =>
    ⟨⟨by rw [upd_ne (by rw [hD]; exact Nat.ne_of_lt (old b hb))]; exact (f2 b hb).1, (f2 b hb).2⟩, by rw [p3, Heap.size_push]; exact Nat.lt_succ_of_lt (old b hb)⟩
  have K4 := block_start K3 ok hN f3
  have Bg := hg z3 (upd G2 D (.lst [])) z3.heap.objs.size (cellsFrom (z3.heap.objs.size + 1) sc.names (cloFrom X.env.cells sc.names [])) fp
  have Bt := ht z3 (upd G2 D (.lst [])) z3.heap.objs.size (cellsFrom (z3.heap.objs.size + 1) sc.names (cloFrom X.env.cells sc.names [])) fp
  have Be := fun xe => he pz sg z3 (upd G2 D (.lst [])) z3.heap.objs.size (cellsFrom (z3.heap.objs.size + 1) sc.names (cloFrom X.env.cells sc.names [])) fp xe K3 fun b hb => (f3 b hb).1
  have goal : codeAny (model X.prog X.w) X.A (.compStart (.ListComp el [⟨ta, ia, fs, 0⟩] sc ps) 0 (.ref it) (.ref D) (compEnvC sc (cellsFrom (z3.heap.objs.size + 1) sc.names (cloFrom X.env.cells sc.names [])) z3.heap.objs.size X.env))
      (blkEnd (model X.prog X.w) X.A X.xe (EP X pz sg Qq) (.ref D) (compEnvC sc (cellsFrom (z3.heap.objs.size + 1) sc.names (cloFrom X.env.cells sc.names [])) z3.heap.objs.size X.env)) { z3 with heap := pushCells (z3.heap.push { cls := .type "dict", data := .dict #[] }) sc.names } := by
    obtain ⟨ce, hce⟩ : ∃ ce, ce = compEnvC sc (cellsFrom (z3.heap.objs.size + 1) sc.names (cloFrom X.env.cells sc.names [])) z3.heap.objs.size X.env := ⟨_, rfl⟩
    rw [← hce] at K4 Bg Bt Be ⊢
    have lc : ce.locals = z3.heap.objs.size := by rw [hce]; rfl
    have hcf : ce.frame = X.env.frame := by rw [hce]; rfl
    obtain ⟨G3, hG3⟩ : ∃ G3, G3 = upd G2 D (.lst []) := ⟨_, rfl⟩
    rw [← hG3] at K3 K4 Bg Bt Be w0 f3
    have nf3 : ∀ b ∈ fp, G3 b = none := fun b hb => (f3 b hb).1.1
    have air := blk_airN (sc := sc) (Q := EP X pz sg Qq) (acc := .ref D) hst hf hcf tk K3 (fun b hb => (f3 b hb).1) lc
    have Be := Be _ air
    obtain ⟨z4, hz4⟩ : ∃ z4 : Shared, z4 = { z3 with heap := pushCells (z3.heap.push { cls := .type "dict", data := .dict #[] }) sc.names } := ⟨_, rfl⟩
    rw [← hz4] at K4 ⊢
    have t4 : tn 0 z4.heap := T.keep _ _ _ t2 fun b _ o e => by
      rw [hz4]
      exact pushCells_keeps _ _ _ _ (Heap.get?_push_of_some _ (keep3 b o e))
    have fpk : ∀ {sg' : L2.St} {G' : Hp} {z' : Shared}, Inv (X.blk z3 G3 sc ce fp) [] sg' G' z' → (∀ b ∈ fp, G' b = none) → ∀ b ∈ fp, FpOk (X.blk z3 G3 sc ce fp) [] G' b := fun Kk hn b hb =>
      ⟨hn b hb, (Kk.ok.exf b hb).1, Kk.ok.exfs b hb, .inl hb, fun x c e => (Kk.ok.exf b hb).2 x c e, fun p hp => by simp at hp⟩
    have loop : codeAny (model X.prog X.w) X.A (.compLoop (.ListComp el [⟨ta, ia, fs, 0⟩] sc ps) 0 (.ref it) (.ref D) ce) (blkEnd (model X.prog X.w) X.A X.xe (EP X pz sg Qq) (.ref D) ce) z4 := by
      refine compLoop_any (fun n z => ∃ i G, Inv (X.blk z3 G3 sc ce fp) [] (wipe sg (own.map (·.2))) G z ∧ tn i z.heap ∧ (∀ b ∈ fp, G b = none) ∧ W i n G) ?_ m0 ⟨0, G3, K4, t4, nf3, w0⟩
      rintro n z5 ⟨i, G5, K5, t5, n5, w5⟩
      rcases turn i n G5 w5 with ⟨halt, qq⟩ | ⟨go, Nx, hNx, step⟩
      · refine thnF (T.done (X.blk z3 G3 sc ce fp) rfl rfl rfl hc i [] z5 _ G5 (fun _ _ => False) K5 (fpk K5 n5) t5 halt) fun r z6 ⟨hr, K6⟩ => ?_
        subst hr
        have K7 : Inv X pz sg G5 z6 := K3.call' (ch := fp) K6.os K6.base K6.hok K6.bare fun b hb => ⟨(f3 b hb).1.2.2.2.1, (f3 b hb).1.2.1, (f3 b hb).1.2.2.2.2.1, (f3 b hb).1.2.2.2.2.2⟩
        have nC : G5 z3.heap.objs.size = none := lc ▸ (show G5 ce.locals = none from K6.free)
        obtain ⟨m, hm, _⟩ := K6.loc
        have ff := K3.fpOk (Nat.le_refl _) nC
        rw [← lc] at ff
        refine ⟨m, hm, fun h'' sb => ?_⟩
        obtain ⟨a0, a1, _, a3, a4, a5⟩ := ff
        exact ⟨.ref D, G5, K7.turned (t' := z6.toks) (fun b o hb e => (sb.2 b hb).trans e) a0 a1 a3 a4 a5, rfl, qq⟩
      · refine thnF (T.item (X.blk z3 G3 sc ce fp) rfl rfl rfl hc i [] z5 _ G5 (fun _ _ => False) K5 (fpk K5 n5) t5 go) fun r z6 ⟨u, hr, h6⟩ => ?_
        subst hr
        refine thnF h6 fun _ z7 ⟨x, G7, K7, r7, y7, t7, n7⟩ => ?_
        refine thnF (Bg.run _ z7 _ G7 x u _ (K7.pinned (fpk K7 n7) (T.obj _ _ t7)) r7 (step x G7 y7)) fun _ z8 ⟨sg8, G8, K8, w8, q8⟩ => ?_
        refine thnF (Bt.run _ z8 sg8 G8 _ K8 q8) fun b z9 ⟨G9, K9, q9⟩ => ?_
        have fin : ∀ {z' : Shared} {G' : Hp}, Inv (X.blk z3 G3 sc ce fp) ([] ++ pinsAt fp z7.heap) sg8 G' z' → Nx G' → ∃ m, m < n ∧ ∃ i G, Inv (X.blk z3 G3 sc ce fp) [] (wipe sg (own.map (·.2))) G z' ∧ tn i z'.heap ∧ (∀ b ∈ fp, G b = none) ∧ W i m G := fun {z' G'} Kk nx => by
          obtain ⟨m', lt, w'⟩ := hNx G' nx
          have pin : ∀ b ∈ fp, ∀ o, z7.heap.get? b = some o → z'.heap.get? b = some o ∧ G' b = none := fun b hb o e =>
            let y := Kk.pin (b, o) (List.mem_append_right _ (List.mem_append_right _ (mem_pinsAt hb e)))
            ⟨y.1, y.2.1⟩
          refine ⟨m', lt, i + 1, G', (Kk.unpinned (pins := [])).weak (by rw [← w8, wipe_length]) (fun j v e => by rw [← w8] at e; exact (wipe_some e).1), T.keep _ _ _ t7 fun b hb o e => (pin b hb o e).1, fun b hb => ?_, w'⟩
          obtain ⟨o, e, _⟩ := T.obj _ _ t7 b hb
          exact (pin b hb o e).2
        cases b with
        | false =>
          simp only [Bool.false_eq_true, if_false] at q9 ⊢; exact fin K9 q9
        | true =>
          simp only [if_true] at q9 ⊢
          refine thn (Be.run _ z9 sg8 G9 _ (K9.wish _) q9) fun v z10 ⟨y, G10, K10, r10, acc, eD, room, nx⟩ => ?_
          exact app_ok (X := X.blk z3 G3 sc ce fp) K10.unwish eD room r10 fun z11 K11 => fin K11 nx
    exact codeAny_compStart_list loop (T.self X.A 0 _ _ _ t4 loop)
  exact hz3 ▸ goal
end
end Cc

/-! Exceptions without context, made, raised and let out. -/
namespace Cc
open PySem PySem.Spec PyProof.Rows L2
section
variable {X : Cx} {C : Addr} {bmB : List Value} {B newId initId : String} {x : Str} {e : Expr} {ta : TA} {p pos : Pos}
theorem pmk_anyN (F : ExcBaseFacts B newId initId bmB) (q : PySem.W.excIn X.K C bmB newId = true) (gC : X.mg x = some (.ref C)) (kC : PySem.W.keepIn X.K (.ref C) = true) (r : Raises X (.ref C)) (hg : Gl X x) (ha : PA X [e] ta)
    (hs : starEach [e] X.env = (false, eval e X.env) :: starEach [] X.env := by rfl) (hp : (backTo pos (starEach [] X.env)).any (·.1) = false := by rfl) (hdb : (x == ("__debug__" : Str)) = false := by decide) :
    L2N.PMk X (.Call (.Name x p) [e] [] pos) (fun σ H Q => ta σ H fun vs H1 => (∃ v, vs = [v]) ∧ Q (.ref C) none H1) := by
  intro pins s σ H Q I h
  refine wpAny_Call_Name_kw (ld_glob I hg gC ?_ hdb); refine PySem.W.callWith_K (h₀ := X.base) I.ok.mod.kin kC (thn (ha.run pos pins s σ H _ I h) fun us z1 ⟨vs, H1, I1, r1, ⟨v, ev⟩, q1⟩ => ⟨I1.kIn, ?_⟩) hs hp
  subst ev
  obtain ⟨u, rfl, ru⟩ := r1.one
  show wpAny _ _ (call (.ref C) [u]) _ _ _; obtain ⟨bm, N, nm, qn, bs, hd, sn, sub, ab, col, dd, k0, k1, k2, k3, k5, mN, hC, hN, hni, T⟩ := exc_obj I1.kIn q
  exact wpAny_call_exc_subT F T hC hN hni (fun h' a hm => L2N.mk_of I1 hm r q1 (I1.hok.gone hm.new)) (by show 1 ≤ sizeLine; decide)
end
section
variable {X : Cx}
theorem pmk_idxN {x : Str} {C fI : Addr} {e : Expr} {te : TE} {p kpos pos : Pos} {k : Nat} (T : PySem.EiX.EiTxt X.prog X.K X.mg x C fI) (hr : Room k X.A) (he : PE X e te) (hg : Gl X x) (hdb : (x == ("__debug__" : Str)) = false := by decide)
    (hall : (backToKw pos (keywordEach [⟨some "index", e, kpos⟩] X.env)).all (·.1.isSome) = true := by rfl) (hks : (backToKw pos (keywordEach [⟨some "index", e, kpos⟩] X.env)).filterMap (·.1) = [("index" : Str)] := by rfl)
    (hpl : ((backTo pos (starEach [] X.env)).any (·.1) || (backToKw pos (keywordEach [⟨some "index", e, kpos⟩] X.env)).any (·.1.isNone)) = false := by rfl) :
    L2N.PMk X (.Call (.Name x p) [] [⟨some "index", e, kpos⟩] pos) (tMkIdx C (tCons te tNil)) := by
  intro pins s σ H Q I h
  refine wpAny_Call_Name_kw (ld_glob I hg T.at_ ?_ hdb)
  refine PySem.W.callWith_KW0 (h₀ := X.base) I.ok.mod.kin T.kp hall ?_ hpl
  refine thn ((pk_cons he pk_nil).run pos pins s σ H _ I h) fun ws s1 ⟨vs, H1, I1, r1, i, ev, hi, q1⟩ => ⟨I1.kIn, ?_⟩
  subst ev
  rw [hks]
  cases r1 with
  | cons rv rn =>
    rename_i v' us'
    cases rn
    obtain ⟨tk0, rfl⟩ := rv
    show wpAny _ _ (call (.ref C) [] [("index", .int i tk0)]) _ _ _
    have hlim := I1.nolimit
    obtain ⟨mb, hb1, hb2⟩ := I1.mod.blt
    have G := I1.mod.glob.keeps I1.bk
    have B := hb1.keeps I1.bk
    obtain ⟨hp, g, dr, tk, os⟩ := s1
    refine wpAny_call (PySem.EiX.idx_made T I1.kIn hlim G B ((hb2 _ (by decide)).trans (by first | rfl | decide +kernel)) (by have := hr.dp; omega) hi fun h' tk' e d M => ?_)
    show L2N.MkP X pins σ Q (.ref e) ⟨h', g, dr, tk', os⟩
    obtain ⟨oe, fv, hoe, hc, hd, hdat, h1⟩ := M.obj
    have hns := M.ns
    obtain ⟨G', g1, g2⟩ := restrict h' fun b => decide (b ≠ e)
    have gk : ∀ b, b ≠ e → G'.get? b = h'.get? b := fun b hb => g1 b (decide_eq_true hb)
    have ge : G'.get? e = none := g2 e (by simp)
    have old : ∀ b o, hp.get? b = some o → G'.get? b = some o := fun b o q => (gk b (Nat.ne_of_lt (Nat.lt_of_lt_of_le (Heap.lt_size q) M.new))).trans (M.keep b o q)
    have ob : ObjOk X.prog X.w (upd H1 d (.xd [(("index" : Str), .int i)])) G' d (.xd [(("index" : Str), .int i)]) :=
      ⟨_, hns.at (fun o q => (gk d M.dne).trans q), fun f => relO_idx (v := .int i) (v' := .int i tk0) ⟨tk0, rfl⟩ f⟩
    have J : Inv X pins σ (upd H1 d (.xd [(("index" : Str), .int i)])) ⟨G', g, dr, tk', os⟩ := I1.laid (t' := tk') old M.dbig ob
    refine ⟨e, oe, fv, ⟨G', g, dr, tk', os⟩, _, .ref C, some d, rfl, J, fun b o q => ?_, ge, hoe, ⟨hc, hd, fun vs q => M.ctx oe vs hoe q⟩, hdat, h1, ?_, rfl, I1.bare, raises_own T.sub T.ty, q1 d (I1.hok.fresh M.dbig)⟩
    · by_cases hb : b = e
      · have q' : G'.get? b = some o := q
        rw [hb, ge] at q'; cases q'
      · exact (gk b hb).symm.trans q
    · rw [upd_ne (Ne.symm M.dne)]
      exact I1.hok.fresh M.new
end
section
variable {P : Program} {w : World} {K : PySem.W.Frag} {mg : Str → Option Value} {base : Heap}
theorem Fun_okN {x qual : Str} {st : Stmt} {f : Addr} {fd : FuncData} {N ps : List Str} {k : Nat} {sp : Sp} (F : Fun K x qual st f fd) (S : FnScope N ps (defScope st)) (len : ∀ vs H Q E, sp vs H Q E → vs.length = ps.length)
    (hb : ∀ (cdv : Value) (A : Around) (outer : List Env) (s : Shared) (H : Hp) (vs : List V) (Q : VK) (E : XK), Room k (A.deeper (envOfC qual (defScope st) s.heap.objs.size f cdv)) → sp vs H Q E →
      ∃ t, PSs (cxOf (L2N.CX P w) P w K mg base N qual (defScope st) f cdv A outer s H E) (defBody st) t ∧ t { nx := fun _ H' => Q .non H', rt := Q } (start N vs) H) : FnOk P w K mg base (L2N.CX P w) (k + 1) f fd ps sp := by
  obtain ⟨oc, od, kV, doc, pm, an, cdv, ct, osl, rfl, lk, hcd⟩ := F.ex; exact fn_of lk hcd S len fun A outer s H vs Q E hr hsp => hb cdv A outer s H vs Q E hr hsp
end
structure DnN (P : Program) (w : World) (K : PySem.W.Frag) (mg : Str → Option Value) (base : Heap) (k : Nat) (x : Str) (f : Addr) (sp : Sp) : Prop where
  ok : FnR P w K mg base (L2N.CX P w) k f sp
  at_ : mg x = some (.ref f)
  kp : PySem.W.keepIn K (Value.ref f) = true
/-- without a context is less than with one -/
theorem cx_less {P : Program} {w : World} {outer : List Env} {H : Hp} {s : Shared} {E : XK} {u : Value} {s' : Shared} (h : L2N.CX P w outer H s E u s') : L2.CX P w outer H s E u s' := by
  obtain ⟨a, B, H', cls, d, e, fl, r⟩ := h
  exact ⟨a, B, H', cls, d, e, L2H.flyingZ_imp (fun o z => z.zc) fl, r⟩
theorem fnr_less {P : Program} {w : World} {K : PySem.W.Frag} {mg : Str → Option Value} {base : Heap} {k : Nat} {f : Addr} {sp : Sp} (F : FnR P w K mg base (L2N.CX P w) k f sp) : FnR P w K mg base (L2.CX P w) k f sp := by
  intro A outer s H us vs Q E hr e0 r h
  refine codeAny_mono (F A outer s H us vs Q E hr e0 r h) fun z s' hq => ?_
  cases z with
  | error e => exact cx_less hq
  | ok fl =>
    cases fl with
    | ret u => exact hq
    | next => exact hq
    | brk => exact hq
    | cont => exact hq
end Cc

/-! Live houses that refuse, the exception without context. -/
namespace Cc
open PySem PySem.Spec PyProof.Rows L2
/-- a meeting that needs more chairs than there are -/
def spMeetE (CH CM CE : Addr) : Sp := fun vs H _ E => ∃ (x m : Addr) (b : Bool) (c r mv n : Int) (t : Bool) (op e rv : V), vs = [.ref x, .str (roomS b), .int n] ∧ HouseIs CH CM H x c m op r mv t e rv ∧ 0 ≤ n ∧ n ≤ 1000000000000000000 ∧ c < n ∧ ∀ H', Same H H' → E (.ref CE) none H'
namespace Bare
section
variable {P : Program} {w : World} {K : PySem.W.Frag} {mg : Str → Option Value} {base : Heap} {C CH CM CE CT TU pS gS : Addr} {fdR fdT : FuncData} {mc : Value}
theorem okn_House_meet {f f_check_meeting f_after_step fAc pR gR : Addr} {fd : FuncData} (F : Fun K "meet" "House.meet" s_House_meet f fd) (D_check_meeting : Dn P w K mg base 2 "check_meeting" f_check_meeting spChkMeet) (D_after_step : Dn P w K mg base 1 "after_step" f_after_step spAStep) (XE : Err K mg "NotEnough" CE) (OH : HTxt K CH) (MAc : Meth K CH "accept" fAc) (GAc : FnR P w K mg base CX0 3 fAc (spAccept CH CM)) (PR : PropOf K CH "red" pR gR) (ORd : FnOk P w K mg base CX0 1 gR fdR ["self"] (spRedP CH CM)) (bR : Binds K fdR ["self"] []) : FnOk P w K mg base (L2N.CX P w) 4 f fd ["self", "room", "need"] (spMeetE CH CM CE) := by
  refine Fun_okN F sc_House_meet (fun vs H Q E h => ?_) (fun cdv A outer s H vs Q E hr h => ?_)
  · obtain ⟨x, m, b, c, r, mv, n, t, op, e, rv, rfl, _⟩ := h
    rfl
  · obtain ⟨x, m, b, c, r, mv, n, t, op, e, rv, rfl, hh, n0, n1, cn, k⟩ := h
    obtain ⟨bmB, Bn, newId, initId, XE_F, XE_q⟩ := XE.ex
    refine ⟨_, pss_cons (ps_expr (pe_callR D_check_meeting.ok (hr.mono (by decide)) rfl D_check_meeting.at_ D_check_meeting.kp pass0 (pa_cons (pv 1) (pa_cons (pv 2) pa_nil))))
      (pss_cons (ps_if (pt_cmpR op_gt (pv 2) (pe_fld (pv 0) rfl) (nomark _))
        (pss_one (L2N.ps_raise (W := fun cls d _ H => E cls d H) rfl (L2N.takes_of rfl rfl rfl rfl) (pmk_anyN XE_F XE_q XE.at_ XE.kp (raises_own XE.sub XE.ty) rfl (pa_cons pe_str pa_nil)))) pss_nil)
      (pss_cons (ps_asg (pe_callR D_after_step.ok (hr.mono (by decide)) rfl D_after_step.at_ D_after_step.kp pass0 (pa_cons (pe_tup (pa_cons (pv 1) (pa_cons (pv 2) pa_nil))) (pa_cons (pe_fld (pv 0) rfl) (pa_cons (pe_prop (pv 0) OH.cl PR ORd (hr.mono (by decide)) bR .nil pass0 rfl) pa_nil)))) (pg_tup rfl (pgs_cons (pg_name (i := 3) sc_House_meet.nd rfl (.inl rfl)) (pgs_cons (pg_name (i := 4) sc_House_meet.nd rfl (.inl rfl)) pgs_nil))))
      (pss_cons (ps_expr (pe_methR (pv 0) OH.cl MAc GAc (hr.mono (by decide)) pass0 (pa_cons (pe_tup (pa_cons pe_str (pa_cons (pv 1) (pa_cons (pv 2) pa_nil)))) (pa_cons (pv 3) (pa_cons (pv 4) (pa_cons pe_bl pa_nil))))))
      (pss_one (ps_ret (pv 4)))))), ?_⟩
    obtain ⟨dx, h1⟩ := hh.at_
    refine ⟨_, rfl, _, rfl, b, n, rfl, n0, n1, fun H1 s1 => ?_⟩
    refine ⟨_, rfl, _, rfl, x, CH, dx, _, _, rfl, s1 _ _ h1, OH.cl, OH.a1, lkZ, _, _, rfl, rfl, _, rfl, ?_⟩
    rw [decide_eq_true cn]
    refine iteT ?_
    first
      | exact ⟨_, rfl, ⟨_, rfl⟩, k _ s1⟩
      | exact ⟨_, rfl, rfl, k _ s1⟩
      | exact ⟨_, rfl, k _ s1⟩
      | (refine ⟨_, rfl, ?_⟩; exact ⟨⟨_, rfl⟩, k _ s1⟩)
      | exact ⟨⟨_, rfl⟩, k _ s1⟩
      | exact k _ s1
theorem ok_housen {f fN CT fI : Addr} {fd fdS : FuncData} (F : Fun K "check_house" "check_house" sChkHouse f fd) (T : Txt K mg C TU pS gS mc) (G : Gs P w K mg base C gS fdS) (N : Dn P w K mg base 2 "check_number" fN spChkNum) (X : PySem.EiX.EiTxt P K mg "TooFewChairs" CT fI) :
    FnOk P w K mg base (L2N.CX P w) 3 f fd ["plan", "chairs"] (spHouseX C CT) := by
  refine Fun_okN F scChkHouse (fun vs H Q E h => ?_) (fun cdv A outer s H vs Q E hr h => ?_)
  · obtain ⟨p, c, ss, rfl, _⟩ := h
    rfl
  · obtain ⟨p, c, ss, rfl, hp, h0, h1, hbig, hl, k⟩ := h
    obtain ⟨dx, tp, ws, e1, e2, e3⟩ := id hp
    obtain ⟨u, hu⟩ := T.con
    refine ⟨_, pss_cons (ps_expr (pe_callR N.ok hr rfl N.at_ N.kp pass0 (pa_cons (pv 1) (pa_cons pe_int (pa_cons (pe_con (pv 0) rfl) pa_nil)))))
      (pss_one (ps_for (passes_of rfl) rfl (pi_enumT (by rfl) T.b.enumerate (pa_cons (pe_prop (pv 0) T.cl T.pr G.ok hr G.b .nil pass0 rfl) pa_nil))
        (pg_tup rfl (pgs_cons (pg_name (i := 2) scChkHouse.nd rfl (.inl rfl)) (pgs_cons (pg_name (i := 3) scChkHouse.nd rfl (.inl rfl)) pgs_nil)))
        (pss_one (ps_if (PW.pt (pw_and (pt_cmpR op_eq (pe_callB call_len (by rfl) T.b.len PySem.boot_len (pa_cons (pv 3) pa_nil)) pe_int (nomark _))
          (pw_and1 (pt_cmpR op_gt (pe_ix ix_tup (pv 3) pe_int (fun _ _ => rfl)) (pv 1) (nomark _)))))
          (pss_one (L2N.ps_raise (W := fun cls d _ H => E cls d H) rfl (L2N.takes_of rfl rfl rfl rfl) (pmk_idxN X hr (pv 2) rfl))) pss_nil)))), ?_⟩
    refine ⟨_, rfl, _, rfl, p, C, dx, _, _, u, rfl, e1, T.cl, hu, lk_no (by decide +kernel), c, 0, _, rfl, h0, h1, ?_⟩
    refine ⟨_, rfl, p, dx, _, rfl, e1, p, dx, _, _, rfl, e1, lk_self, tp, ws, rfl, e2.sq, ?_⟩
    refine for_it (walk_enumT (xs := ws)) (fun i σ H' => ∃ a b, σ = [some (.ref p), some (.int c), a, b] ∧ Same H H' ∧ ∀ s ∈ ss.take i, ¬ bigS c s) ⟨none, none, rfl, Same.refl H, fun s hs => by simp at hs⟩ (fun i σ H' _ ⟨_, _, _, s1, _⟩ => (e2.same s1).sq) ?_ ?_
    · rintro i x σ H1 H2 hi ⟨a, b, rfl, s1, nb⟩ ⟨q, y1, y2, rfl, n1, rfl, z1, z2⟩
      obtain ⟨st, hst, t, rfl, ht⟩ := e3.get z2
      have il : i < ss.length := (List.getElem?_eq_some_iff.mp hst).1
      have s2 : Same H (upd H1 q (.tup [y1, .ref t])) := s1.trans (same_upd n1)
      have ht2 := s2 _ _ ht
      have nb2 : ¬ bigS c st → ∀ s ∈ ss.take (i + 1), ¬ bigS c s := fun h s hs => by
        rw [take_more hst] at hs
        rcases List.mem_append.mp hs with m | m
        · exact nb s m
        · rw [List.mem_singleton.mp m]
          exact h
      refine ⟨q, _, rfl, SqT.of upd_same, rfl, _, _, rfl, _, _, rfl, rfl, ?_⟩
      refine ⟨_, rfl, _, _, rfl, .inr ⟨_, SqT.of ht2, rfl⟩, rfl, ?_⟩
      cases st with
      | turn =>
        refine ⟨_, rfl, ?_⟩
        refine iteF ?_
        exact iteF ⟨_, _, rfl, s2, nb2 id⟩
      | meet bb n =>
        refine ⟨_, rfl, iteT ⟨_, rfl, t, _, _, _, rfl, rfl, SqT.of ht2, at_of (j := 1) rfl rfl, _, rfl, _, _, rfl, rfl, _, rfl, ?_⟩⟩
        by_cases hc : c < n
        · rw [decide_eq_true hc]
          refine iteT ⟨_, rfl, (i : Int), by rw [← Option.some.inj z1], ⟨by omega, by omega⟩, fun d hd => k i _ d ⟨nb, bb, n, hst, hc⟩ s2 hd⟩
        · rw [decide_eq_false hc]
          exact iteF ⟨_, _, rfl, s2, nb2 hc⟩
    · rintro σ H' ⟨a, b, rfl, s1, nb⟩
      obtain ⟨s, hs, hb⟩ := hbig
      rw [e3.length, List.take_length] at nb
      exact (nb s hs hb).elim
theorem okn_House_run {f f_check_number f_after_rounds fx_check_house fAc pR gR pT gT : Addr} {fd fdS : FuncData} (F : Fun K "run" "House.run" s_House_run f fd) (T : Txt K mg C TU pS gS mc) (G : Gs P w K mg base C gS fdS) (g_MAX_ROUNDS : ∃ u, mg "MAX_ROUNDS" = some u ∧ RelV (.int 1000000000000000000) u) (D_check_number : Dn P w K mg base 2 "check_number" f_check_number spChkNum) (D_after_rounds : Dn P w K mg base 3 "after_rounds" f_after_rounds (spARounds C)) (DX_check_house : DnN P w K mg base 3 "check_house" fx_check_house (spHouseX C CT)) (OH : HTxt K CH) (MAc : Meth K CH "accept" fAc) (GAc : FnR P w K mg base CX0 3 fAc (spAccept CH CM)) (PR : PropOf K CH "red" pR gR) (ORd : FnOk P w K mg base CX0 1 gR fdR ["self"] (spRedP CH CM)) (bR : Binds K fdR ["self"] []) (PT : PropOf K C "is_turning" pT gT) (OTu : FnOk P w K mg base CX0 1 gT fdT ["self"] (spTurning C)) (bT : Binds K fdT ["self"] []) : FnOk P w K mg base (L2N.CX P w) 4 f fd ["self", "plan", "rounds"] (spRunF C CH CM CT) := by
  refine Fun_okN F sc_House_run (fun vs H Q E h => ?_) (fun cdv A outer s H vs Q E hr h => ?_)
  · obtain ⟨x, m, p, c, r, mv, n, t, op, e, rv, ss, rfl, _⟩ := h
    rfl
  · obtain ⟨x, m, p, c, r, mv, n, t, op, e, rv, ss, rfl, hh, hp, hl, c0, c1, hb, k⟩ := h
    obtain ⟨u_MAX_ROUNDS, m_MAX_ROUNDS, r_MAX_ROUNDS⟩ := g_MAX_ROUNDS
    refine ⟨_, pss_cons (ps_expr (pe_callR (Ez := E) DX_check_house.ok (hr.mono (by decide)) rfl DX_check_house.at_ DX_check_house.kp (L2N.passes_call (L2N.takes_of rfl rfl rfl rfl) fun _ _ _ _ h => h) (pa_cons (pv 1) (pa_cons (pe_fld (pv 0) rfl) pa_nil))))
      (pss_cons (ps_expr (pe_callR D_check_number.ok (hr.mono (by decide)) rfl D_check_number.at_ D_check_number.kp pass0 (pa_cons (pv 2) (pa_cons pe_int (pa_cons (pe_glob rfl m_MAX_ROUNDS r_MAX_ROUNDS) pa_nil)))))
      (pss_cons (ps_asg (pe_callR D_after_rounds.ok (hr.mono (by decide)) rfl D_after_rounds.at_ D_after_rounds.kp pass0 (pa_cons (pv 1) (pa_cons (pe_fld (pv 0) rfl) (pa_cons (pe_prop (pv 0) OH.cl PR ORd (hr.mono (by decide)) bR .nil pass0 rfl) (pa_cons (pv 2) pa_nil))))) (pg_tup rfl (pgs_cons (pg_name (i := 3) sc_House_run.nd rfl (.inl rfl)) (pgs_cons (pg_name (i := 4) sc_House_run.nd rfl (.inl rfl)) pgs_nil))))
      (pss_cons (ps_expr (pe_methR (pv 0) OH.cl MAc GAc (hr.mono (by decide)) pass0 (pa_cons (pe_tup (pa_cons pe_str (pa_cons (pe_prop (pv 1) T.cl T.pr G.ok (hr.mono (by decide)) G.b .nil pass0 rfl) (pa_cons (pv 2) pa_nil)))) (pa_cons (pv 3) (pa_cons (pv 4) (pa_cons (pe_and (pe_prop (pv 1) T.cl PT OTu (hr.mono (by decide)) bT .nil pass0 rfl) (pe_one (pe_cmpR op_eq (pe_op op_mod (pv 2) pe_int) pe_int (nomark _)))) pa_nil))))))
      (pss_one (ps_ret (pv 4)))))), ?_⟩
    obtain ⟨dx, h1⟩ := hh.at_
    exact ⟨_, rfl, _, rfl, x, CH, dx, _, _, rfl, h1, OH.cl, OH.a1, lkZ, p, c, ss, rfl, hp, c0, c1, hb, hl, fun i H' d fa s1 hd => k i H' d fa s1 hd⟩
end
end Bare
end Cc

/-! A live house reverts its last operation, and takes it up again. -/
namespace Cc
open PySem PySem.Spec PyProof.Rows L2
def spUndo (CH CM : Addr) : Sp := fun vs H Q _ => ∃ (x m : Addr) (c r mv : Int) (t : Bool) (op e rv : V), vs = [.ref x] ∧ HouseIs CH CM H x c m op r mv t e rv ∧
  (e = .non ∧ Q (.bl false) H ∨ ∃ m2 op2 r2 mv2 t2 e2, e = .ref m2 ∧ MomAt CM H m2 op2 r2 mv2 t2 e2 ∧ ∀ tq H', But x H H' → H' tq = some (.tup [.ref m, rv]) → HouseIs CH CM H' x c m2 op2 r2 mv2 t2 e2 (.ref tq) → Q (.bl true) H')
def spRedo (CH CM : Addr) : Sp := fun vs H Q _ => ∃ (x m : Addr) (c r mv : Int) (t : Bool) (op e rv : V), vs = [.ref x] ∧ HouseIs CH CM H x c m op r mv t e rv ∧
  (rv = .non ∧ Q (.bl false) H ∨ ∃ tq m2 op2 r2 mv2 t2 e2 rv2, rv = .ref tq ∧ H tq = some (.tup [.ref m2, rv2]) ∧ MomAt CM H m2 op2 r2 mv2 t2 e2 ∧ ∀ H', But x H H' → HouseIs CH CM H' x c m2 op2 r2 mv2 t2 e2 rv2 → Q (.bl true) H')
section
variable {P : Program} {w : World} {K : PySem.W.Frag} {mg : Str → Option Value} {base : Heap} {C CH CM TU pS gS : Addr} {mc : Value}
abbrev s_House_undo : Stmt := inClass (top 31) 12
abbrev n_House_undo : List Str := ["self"]
theorem sc_House_undo : FnScope n_House_undo ["self"] (defScope s_House_undo) := ⟨rfl, rfl, rfl, by decide +kernel, rfl, by decide +kernel, by decide +kernel⟩
theorem ok_House_undo {f : Addr} {fd : FuncData} (F : Fun K "undo" "House.undo" s_House_undo f fd) (OH : HTxt K CH) (OM : MTxt K CM) : FnOk P w K mg base CX0 1 f fd ["self"] (spUndo CH CM) := by
  refine F.ok sc_House_undo (fun vs H Q E h => ?_) (fun cdv A outer s H vs Q E hr h => ?_)
  · obtain ⟨x, m, c, r, mv, t, op, e, rv, rfl, _⟩ := h
    rfl
  · obtain ⟨x, m, c, r, mv, t, op, e, rv, rfl, ⟨⟨dx, h1⟩, ⟨dm, h2⟩⟩, k⟩ := h
    refine ⟨_, pss_cons (ps_if (pt_cmpR op_isN (pe_fld (pe_fld (pv 0) rfl) rfl) pe_non (nomark _))
        (pss_one (ps_ret pe_bl)) pss_nil)
      (pss_cons (ps_fld (pv 0) (pe_tup (pa_cons (pe_fld (pv 0) rfl) (pa_cons (pe_fld (pv 0) rfl) pa_nil))) rfl)
      (pss_cons (ps_fld (pv 0) (pe_fld (pe_fld (pv 0) rfl) rfl) rfl)
      (pss_one (ps_ret pe_bl)))), ?_⟩
    rcases k with ⟨rfl, k⟩ | ⟨m2, op2, r2, mv2, t2, e2, rfl, h3, k⟩
    · refine ⟨_, rfl, x, CH, dx, _, _, rfl, h1, OH.cl, OH.a2, lkS (by decide) lkZ, ?_⟩
      refine ⟨m, CM, dm, _, _, rfl, h2, OM.cl, OM.a5, lkS (by decide) (lkS (by decide) (lkS (by decide) (lkS (by decide) lkZ))), ?_⟩
      refine ⟨rfl, _, rfl, ?_⟩
      dsimp only
      rw [if_pos (by simp)]
      exact k
    · have nmx : m ≠ x := ins_ne h2 h1 (by simp)
      obtain ⟨d3, h3⟩ := h3
      have n2x : m2 ≠ x := ins_ne h3 h1 (by simp)
      refine ⟨_, rfl, x, CH, dx, _, _, rfl, h1, OH.cl, OH.a2, lkS (by decide) lkZ, ?_⟩
      refine ⟨m, CM, dm, _, _, rfl, h2, OM.cl, OM.a5, lkS (by decide) (lkS (by decide) (lkS (by decide) (lkS (by decide) lkZ))), ?_⟩
      refine ⟨rfl, _, rfl, ?_⟩
      dsimp only
      rw [if_neg (by simp)]
      refine ⟨_, rfl, x, CH, dx, _, _, rfl, h1, OH.cl, OH.a2, lkS (by decide) lkZ, ?_⟩
      refine ⟨_, rfl, x, CH, dx, _, _, rfl, h1, OH.cl, OH.a3, lkS (by decide) (lkS (by decide) lkZ), ?_⟩
      refine ⟨by show 2 ≤ sizeLine; decide, fun tq htq => ?_⟩
      have s1 := same_upd (H := H) (o := .tup [.ref m, rv]) htq
      have g1 := upd_same (H := H) (a := tq) (o := .tup [.ref m, rv])
      generalize upd H tq (.tup [.ref m, rv]) = H1 at *
      have ntx : tq ≠ x := fun z => by
        have y := s1 _ _ h1
        rw [← z, g1] at y; cases y
      refine ⟨_, rfl, x, CH, dx, _, rfl, s1 _ _ h1, OH.cl, OH.a3, by show 3 < 1000; decide, ?_⟩
      rw [putF_skip (by decide), putF_skip (by decide), putF_hit]
      refine ⟨_, rfl, x, CH, dx, _, _, rfl, upd_same, OH.cl, OH.a2, lkS (by decide) lkZ, ?_⟩
      refine ⟨m, CM, dm, _, _, rfl, (upd_ne nmx).trans (s1 _ _ h2), OM.cl, OM.a5, lkS (by decide) (lkS (by decide) (lkS (by decide) (lkS (by decide) lkZ))), ?_⟩
      refine ⟨_, rfl, x, CH, dx, _, rfl, upd_same, OH.cl, OH.a2, by show 3 < 1000; decide, ?_⟩
      rw [putF_skip (by decide), putF_hit]
      refine k tq _ (fun b o z q => ?_) ?_ ⟨⟨dx, upd_same⟩, ⟨d3, ?_⟩⟩
      · rw [upd_ne z, upd_ne z]
        exact s1 _ _ q
      · rw [upd_ne ntx, upd_ne ntx]
        exact g1
      · rw [upd_ne n2x, upd_ne n2x]
        exact s1 _ _ h3
abbrev s_House_redo : Stmt := inClass (top 31) 13
abbrev n_House_redo : List Str := ["self"]
theorem sc_House_redo : FnScope n_House_redo ["self"] (defScope s_House_redo) := ⟨rfl, rfl, rfl, by decide +kernel, rfl, by decide +kernel, by decide +kernel⟩
theorem ok_House_redo {f : Addr} {fd : FuncData} (F : Fun K "redo" "House.redo" s_House_redo f fd) (OH : HTxt K CH) (OM : MTxt K CM) : FnOk P w K mg base CX0 1 f fd ["self"] (spRedo CH CM) := by
  refine F.ok sc_House_redo (fun vs H Q E h => ?_) (fun cdv A outer s H vs Q E hr h => ?_)
  · obtain ⟨x, m, c, r, mv, t, op, e, rv, rfl, _⟩ := h
    rfl
  · obtain ⟨x, m, c, r, mv, t, op, e, rv, rfl, ⟨⟨dx, h1⟩, ⟨dm, h2⟩⟩, k⟩ := h
    refine ⟨_, pss_cons (ps_if (pt_cmpR op_isN (pe_fld (pv 0) rfl) pe_non (nomark _))
        (pss_one (ps_ret pe_bl)) pss_nil)
      (pss_cons (ps_asg (pe_fld (pv 0) rfl) (pg_tup rfl (pgs_cons (pg_att (pv 0)) (pgs_cons (pg_att (pv 0)) pgs_nil))))
      (pss_one (ps_ret pe_bl))), ?_⟩
    rcases k with ⟨rfl, k⟩ | ⟨tq, m2, op2, r2, mv2, t2, e2, rv2, rfl, hq, h3, k⟩
    · refine ⟨_, rfl, x, CH, dx, _, _, rfl, h1, OH.cl, OH.a3, lkS (by decide) (lkS (by decide) lkZ), ?_⟩
      refine ⟨rfl, _, rfl, ?_⟩
      dsimp only
      rw [if_pos (by simp)]
      exact k
    · obtain ⟨d3, h3⟩ := h3
      have n2x : m2 ≠ x := ins_ne h3 h1 (by simp)
      refine ⟨_, rfl, x, CH, dx, _, _, rfl, h1, OH.cl, OH.a3, lkS (by decide) (lkS (by decide) lkZ), ?_⟩
      refine ⟨rfl, _, rfl, ?_⟩
      dsimp only
      rw [if_neg (by simp)]
      refine ⟨_, rfl, x, CH, dx, _, _, rfl, h1, OH.cl, OH.a3, lkS (by decide) (lkS (by decide) lkZ), ?_⟩
      refine ⟨tq, _, rfl, SqT.of hq, rfl, _, _, rfl, ?_⟩
      refine ⟨_, rfl, x, CH, dx, _, rfl, h1, OH.cl, OH.a2, by show 3 < 1000; decide, ?_⟩
      rw [putF_skip (by decide), putF_hit]
      refine ⟨_, _, rfl, _, rfl, x, CH, dx, _, rfl, upd_same, OH.cl, OH.a3, by show 3 < 1000; decide, ?_⟩
      rw [putF_skip (by decide), putF_skip (by decide), putF_hit]
      refine ⟨rfl, ?_⟩
      refine k _ (fun b o z q => ?_) ⟨⟨dx, upd_same⟩, ⟨d3, ?_⟩⟩
      · rw [upd_ne z, upd_ne z]
        exact q
      · rw [upd_ne n2x, upd_ne n2x]
        exact h3
end
end Cc

/-! a, *b = a tuple; o.m( *y). -/
namespace Cc
open PySem PySem.Spec PyProof.Rows L2
section
variable {prog : Program} {w : World} {A : Around} {E : Value → Shared → Prop} {s : Shared}
theorem star_tup {l : Addr} {items : Array Value} {i : Nat} {Q : List Value → Shared → Prop} (hh : A.handled = none) (hl : IsTup s.heap l items) (hi : i ≤ items.size) (hz : items.size ≤ 16384)
    (h : ∀ (h' : Heap) (tk : Nat), (∀ b o, s.heap.get? b = some o → h'.get? b = some o) → Q (items.toList.take i ++ [.ref h'.objs.size] ++ []) { s with heap := h'.push { cls := .type "list", data := .seq (items.toList.drop i).toArray }, toks := tk }) :
    wpAny (model prog w) A (unpackItems (.ref l) (i + 1) (some i)) Q E s := by
  have nl : l ≠ s.heap.objs.size := by obtain ⟨o, ho, _⟩ := hl; exact Nat.ne_of_lt (Heap.lt_size ho)
  unfold unpackItems
  apply wpAny_bind
  unfold notIterableAtAll
  refine wpAny_bind (wpAny_specialOf hl.typeIs slot_tuple_iter.lookup (wpAny_pure ?_))
  simp only [if_false, Bool.false_eq_true]
  refine wpAny_bind (wpAny_holding (iter_tuple hl (wpAny_bind (wpAny_holding (draw_tuple nl i 0 _ _ ⟨_, Heap.get?_push_size _ rfl, rfl, rfl⟩ (hl.push _) (by omega) fun h1 it1 sb1 => ?_)))))
  have l1 : IsTup h1 l items := (hl.push _).extBut sb1.extBut nl
  rw [Nat.zero_add] at it1
  obtain ⟨oi, hoi, _⟩ := id it1
  obtain ⟨ol, hol, _⟩ := id l1
  rw [List.drop_zero]
  have e1 : (items.toList.take i).length = i := by rw [List.length_take, Array.length_toList]; omega
  rw [if_neg (show ¬ ((items.toList.take i).length < i) by rw [e1]; omega)]
  refine wpAny_bind (wpAny_holding (PySem.W.kun_collect (s := { s with heap := h1 }) (T := "tuple_iterator") (.inr (.inr (.inr rfl))) (Walks.tuple (A := A.in1) hh s.heap.objs.size l nl items) (fun j u st => st.1.typeIs) (k := i) hi ⟨it1, l1⟩ (Heap.lt_size hoi) (Heap.lt_size hol) (fun h2 tk hk => ?_) (by rw [sizeLine_eq]; omega)))
  have e2 : (items.toList.drop i).length = items.size - i := by rw [List.length_drop, Array.length_toList]
  show wpAny _ _ (if (items.toList.drop i).length < i + 1 - 1 - i then _ else _) _ _ _
  rw [if_neg (by omega)]
  show wpAny _ _ (newList ((items.toList.drop i).take ((items.toList.drop i).length - (i + 1 - 1 - i))) >>= fun d => pure (items.toList.take i ++ [d] ++ (items.toList.drop i).drop ((items.toList.drop i).length - (i + 1 - 1 - i)))) _ _ _
  rw [show (items.toList.drop i).length - (i + 1 - 1 - i) = (items.toList.drop i).length from by omega, List.take_length, List.drop_length]
  refine wpAny_bind (wpAny_newObj_type (wpAny_pure (h h2 tk fun b o e => ?_)) ?_)
  · exact hk b o (Nat.ne_of_lt (Heap.lt_size e)) (sb1.extBut b o (Nat.ne_of_lt (Heap.lt_size e)) (Heap.get?_push_of_some _ e))
  · show (items.toList.drop i).length ≤ sizeLine
    rw [e2, sizeLine_eq]
    omega
end
section
variable {X : Cx}
/-- a, *b = .. -/
def gStar (K : PySem.W.Frag) (g1 g2 : TG) : TG := fun v σ H Q => ∃ a x xs, v = .ref a ∧ SqT K H a (x :: xs) ∧ xs.length ≤ 16000 ∧ ∀ D, H D = none → g1 x σ (upd H D (.lst xs)) fun σ1 H1 => g2 (.ref D) σ1 H1 Q
theorem pg_star1 {e1 e2 : Expr} {g1 g2 : TG} {k : Nat} {p pos : Pos} (hc : X.calm = true) (h1 : PG X e1 g1) (h2 : PG X e2 g2)
    (he : assignEach [e1, .Starred e2 p] X.env = [(false, assign e1 X.env), (true, assign e2 X.env)] := by rfl) : PG X (.Tuple [e1, .Starred e2 p] k pos) (gStar X.K g1 g2) := by
  refine ⟨fun pins s σ H v u Q I r ⟨a, x, xs, ev, hq, hl, hw⟩ => ?_⟩
  subst ev
  cases r
  obtain ⟨its, rv, ht, _⟩ := I.tuple hq
  rw [arm_assign_Tuple]
  apply wpAny_bind
  apply wpAny_standAt
  unfold unpack
  rw [he]
  cases rv with
  | cons rx rr =>
    rename_i u1 us
    have el : us.length = xs.length := rr.length.symm
    show wpAny _ _ (do let z ← holding [Value.ref a] (unpackItems (.ref a) (1 + 1) (some 1)); assignInOrder [assign e1 X.env, assign e2 X.env] z) _ _ _
    refine wpAny_bind (wpAny_holding (star_tup (items := (u1 :: us).toArray) (i := 1) (I.ok.hd hc) ht (by simp) (by simp; omega) fun h' tk keep => ?_))
    have I1 : Inv X pins σ H { s with heap := h', toks := tk } := I.kept keep
    have I2 : Inv X pins σ (upd H h'.objs.size (.lst xs)) { s with heap := h'.push { cls := .type "list", data := .seq us.toArray }, toks := tk } := by
      refine I1.laid (t' := tk) (fun b o e => Heap.get?_push_of_some _ e) (Nat.le_refl _) ⟨by rw [sizeLine_eq]; omega, us, 0, rr, ?_⟩
      exact Heap.get?_push_size h' rfl
    show wpAny _ _ (assignInOrder [assign e1 X.env, assign e2 X.env] [u1, .ref h'.objs.size]) _ _ _
    refine assignInOrder_cons (thn (h1.run pins _ σ _ x u1 _ I2 rx (hw _ (I1.hok.fresh (Nat.le_refl _)))) fun _ s3 ⟨σ3, H3, I3, q3⟩ => ?_)
    refine assignInOrder_cons (thn (h2.run pins _ σ3 _ (.ref h'.objs.size) _ _ I3 rfl q3) fun _ s4 z => assignInOrder_nil z)
/-- o.m( *y): the method, then the tuple, then the call -/
theorem starcall1 {M : Model} {A : Around} {E : Value → Shared → Prop} {s : Shared} {env : Env} {o e2 : Expr} {m : Str} {p apos pos : Pos} {Q : Value → Shared → Prop} (hb : attributeBase o m env (eval o env) = eval o env) (hst : starEach [.Starred e2 p] env = [(true, eval e2 env)])
    (k : wpAny M A (eval o env) (fun ov z => wpAny M A (getAttr ov m true) (fun f z2 => wpAny M A (callWith pos f [] (backTo pos [(true, eval e2 env)]) []) Q E z2) E z) E s) : wpAny M A (eval (.Call (.Attribute o m apos) [.Starred e2 p] [] pos) env) Q E s := by
  rw [arm_eval_Call, hb, hst, show backToKw pos (keywordEach [] env) = [] from rfl]
  refine wpAny_bind (wpAny_mono k (fun ov z got => wpAny_bind (wpAny_standAt ?_)) fun _ _ => id)
  unfold methodCall
  rw [show methodCallForm ([Expr.Starred e2 p].length + ([] : List Keyword).length) (backTo pos [(true, eval e2 env)]) [] = false from rfl, show methodCallPos false o env apos pos = pure pos from rfl, show calleeOf false o env ov m = (getAttr ov m true >>= fun v => pure (v, [])) from rfl]
  exact wpAny_bind (wpAny_holding (wpAny_bind (wpAny_mono got (fun _ _ call => wpAny_pure (wpAny_bind (wpAny_pure call))) fun _ _ => id)))
def tMethS1 (K : PySem.W.Frag) (C : Addr) (m : Str) (g : Addr) (sp : Sp) (E : XK) (ta t2 : TE) : TE := fun σ H Q => ta σ H fun x H1 => ∃ a dx fs, x = .ref a ∧ H1 a = some (.ins C dx fs) ∧ fs.lookup m = none ∧
  ∀ q, H1 q = none → t2 σ (upd H1 q (.met g a)) fun y2 H3 => ∃ b vs, y2 = .ref b ∧ (SqT K H3 b vs ∨ SqL K H3 b vs) ∧ H3 q = some (.met g a) ∧ sp (.ref a :: vs) H3 Q E
theorem pe_methS1 {CX : CXT} {k : Nat} {C g : Addr} {m : Str} {sp : Sp} {E : XK} {o e2 : Expr} {ta t2 : TE} {p apos pos : Pos} (he : PE X o ta) (c : Cls X.K C) (b : BMeth X.K C m g) (F : FnR X.prog X.w X.K X.mg X.base CX k g sp) (hr : Room k X.A)
    (hx : Passes CX X E) (h2 : PE X e2 t2) (hb : attributeBase o m X.env (eval o X.env) = eval o X.env := by rfl)
    (hst : starEach [.Starred e2 p] X.env = [(true, eval e2 X.env)] := by rfl) : PE X (.Call (.Attribute o m apos) [.Starred e2 p] [] pos) (tMethS1 X.K C m g sp E ta t2) := by
  refine ⟨fun pins s σ H Q I h => ?_⟩
  refine starcall1 hb hst (thn (he.run pins s σ H _ I h) fun u s1 ⟨x, H1, I1, rx, a, dx, fs, ex, ea, l, q⟩ => ?_)
  subst ex
  obtain rfl : u = Value.ref a := rx
  refine getbound_ok I1 ea c b l fun q1 s2 hq1 I2 => PySem.W.ks_call (P := PySem.W.MethP X.K q1 g (.ref a)) rfl (PySem.W.keeps_M b.fi) (PySem.W.ks_lone (thn (h2.run pins s2 σ _ _ I2 (q q1 hq1)) fun v2 s4 ⟨y2, H3, I4, ry2, t, vs, ey, ht, hm, hsp⟩ => ?_))
  subst ey
  cases (show v2 = Value.ref t from ry2)
  refine StX.star_any I4 ht fun us s5 I5 rv => ?_
  show PySem.W.MethP X.K q1 g (.ref a) s5.heap ∧ wpAny (model X.prog X.w) X.A (call (.ref q1) ([] ++ us) []) (EP X pins σ Q) X.xe s5
  rw [List.nil_append]
  exact ⟨met_P I5 hm, wpAny_call (PySem.W.method_call (met_P I5 hm).1 (run_fnR (us := Value.ref a :: us) (vs := V.ref a :: vs) F hr hx I5 (.cons rfl rv) hsp))⟩
end
end Cc

/-! A live house performs an operation that is told as a tuple. -/
namespace Cc
open PySem PySem.Spec PyProof.Rows L2
/-- an operation, as it is told -/
def OpAt (K : PySem.W.Frag) (H : Hp) (v : V) : Ent → Prop
  | .turn => ∃ p, v = .ref p ∧ TupK K H p [.str "turn"]
  | .meet b n => ∃ p, v = .ref p ∧ TupK K H p [.str "meet", .str (roomS b), .int n]
  | .run ss n => ∃ p tp ws, v = .ref p ∧ TupK K H p [.str "run", .ref tp, .int n] ∧ TupK K H tp ws ∧ Steps H ws ss
theorem OpAt.same {K : PySem.W.Frag} {H H1 : Hp} {v : V} {e : Ent} (h : OpAt K H v e) (g : Same H H1) : OpAt K H1 v e := by
  cases e with
  | turn => exact let ⟨p, a, b⟩ := h; ⟨p, a, b.same g⟩
  | meet b n => exact let ⟨p, a, b⟩ := h; ⟨p, a, b.same g⟩
  | run ss n => exact let ⟨p, tp, ws, a, b, c, d⟩ := h; ⟨p, tp, ws, a, b.same g, c.same g, d.same g⟩
/-- what a house of c chairs can do -/
def canE (c : Int) : Ent → Prop
  | .turn => True
  | .meet _ n => 0 ≤ n ∧ n ≤ c
  | .run ss n => ss.length ≤ 60 ∧ (∀ s ∈ ss, s.ok c) ∧ 0 ≤ n ∧ n ≤ 1000000000000000000
/-- where it leads -/
def ledE (c : Int) (e : Ent) (r : Int) : Int × Int := match e with
  | .turn => (c - r, 0)
  | .meet b n => stepF c (.meet b n) r
  | .run ss n => afterF c ss r n.toNat
def turnE : Ent → Bool
  | .turn => true
  | .meet _ _ => false
  | .run ss n => decide (turnsF ss % 2 = 1) && decide (n % 2 = 1)
def toldE (e : Ent) (k : Int) : V := match e with
  | .turn => .non
  | _ => .int k
def spPerform (K : PySem.W.Frag) (CH CM : Addr) : Sp := fun vs H Q _ => ∃ (x m : Addr) (v : V) (c r mv : Int) (t : Bool) (op e rv : V) (en : Ent), vs = [.ref x, v] ∧ HouseIs CH CM H x c m op r mv t e rv ∧ OpAt K H v en ∧ canE c en ∧ 0 ≤ c ∧ c ≤ 1000000000000000000 ∧ 0 ≤ r ∧ r ≤ c ∧
  ∀ m' op' H', But x H H' → OpAt K H' op' en → HouseIs CH CM H' x c m' op' (ledE c en r).1 (mv + (ledE c en r).2) (t != turnE en) (.ref m) .non → Q (toldE en (ledE c en r).2) H'
def spPerformX (K : PySem.W.Frag) (CH CM CE CT : Addr) : Sp := fun vs H _ E => ∃ (x m : Addr) (v : V) (c r mv : Int) (t : Bool) (op e rv : V) (en : Ent), vs = [.ref x, v] ∧ HouseIs CH CM H x c m op r mv t e rv ∧ OpAt K H v en ∧ 0 ≤ c ∧ c ≤ 1000000000000000000 ∧
  ((∃ b n, en = .meet b n ∧ 0 ≤ n ∧ n ≤ 1000000000000000000 ∧ c < n ∧ ∀ H', Same H H' → E (.ref CE) none H') ∨
   (∃ ss n, en = .run ss n ∧ ss.length ≤ 60 ∧ (∀ s ∈ ss, s.ok 1000000000000000000) ∧ (∃ s ∈ ss, bigS c s) ∧ ∀ i H' d, FewAt c ss i → Same H H' → H' d = none → E (.ref CT) (some d) (upd H' d (.xd [(("index" : Str), .int (i : Nat))]))))
section
variable {P : Program} {w : World} {K : PySem.W.Frag} {mg : Str → Option Value} {base : Heap} {C CH CM CE CT TU pS gS : Addr} {mc : Value}
abbrev s_House_perform : Stmt := inClass (top 31) 15
abbrev n_House_perform : List Str := ["self", "operation", "name", "rest", "steps", "rounds"]
theorem sc_House_perform : FnScope n_House_perform ["self", "operation"] (defScope s_House_perform) := ⟨rfl, rfl, rfl, by decide +kernel, rfl, by decide +kernel, by decide +kernel⟩
theorem ok_House_perform {f fI fMe fRn fTu : Addr} {fd : FuncData} (F : Fun K "perform" "House.perform" s_House_perform f fd) (T : Txt K mg C TU pS gS mc) (M : Mk K C fI) (GI : FnR P w K mg base CX0 3 fI (spInit C)) (OH : HTxt K CH) (BMe : BMeth K CH "meet" fMe) (GMe : FnR P w K mg base CX0 4 fMe (spMeet CH CM)) (MRn : Meth K CH "run" fRn) (GRn : FnR P w K mg base CX0 4 fRn (spRun C CH CM)) (MTu : Meth K CH "turn" fTu) (GTu : FnR P w K mg base CX0 4 fTu (spTurn CH CM TU)) : FnOk P w K mg base CX0 5 f fd ["self", "operation"] (spPerform K CH CM) := by
  refine F.ok sc_House_perform (fun vs H Q E h => ?_) (fun cdv A outer s H vs Q E hr h => ?_)
  · obtain ⟨x, m, v, c, r, mv, t, op, e, rv, en, rfl, _⟩ := h
    rfl
  · obtain ⟨x, m, v, c, r, mv, t, op, e, rv, en, rfl, hh, ho, hc, c0, c1, r0, r1, k⟩ := h
    refine ⟨_, pss_cons (ps_asg (pv 1) (pg_star1 rfl (pg_name (i := 2) sc_House_perform.nd rfl (.inl rfl)) (pg_name (i := 3) sc_House_perform.nd rfl (.inl rfl))))
      (pss_cons (ps_if (pt_cmpR op_eq (pv 2) pe_str (nomark _))
        (pss_one (ps_ret (pe_methS1 (E := E0) (pv 0) OH.cl BMe GMe (hr.mono (by decide)) pass0 (pv 3)))) pss_nil)
      (pss_cons (ps_if (pt_cmpR op_eq (pv 2) pe_str (nomark _))
        (pss_cons (ps_asg (pv 3) (pg_lst rfl (pgs_cons (pg_name (i := 4) sc_House_perform.nd rfl (.inl rfl)) (pgs_cons (pg_name (i := 5) sc_House_perform.nd rfl (.inl rfl)) pgs_nil))))
        (pss_one (ps_ret (pe_methR (pv 0) OH.cl MRn GRn (hr.mono (by decide)) pass0 (pa_cons (pe_makeS M GI (hr.mono (by decide)) rfl T.gP pass0 (pv 4)) (pa_cons (pv 5) pa_nil)))))) pss_nil)
      (pss_one (ps_ret (pe_methR0 (pv 0) OH.cl MTu GTu (hr.mono (by decide)) pass0))))), ?_⟩
    obtain ⟨dx, h1⟩ := hh.at_
    cases en with
    | turn =>
      obtain ⟨p, rfl, hp⟩ := ho
      refine ⟨_, rfl, p, .str "turn", [], rfl, hp.at_, by decide, fun D hD => ?_⟩
      have s1 := same_upd (H := H) (o := .lst []) hD
      generalize upd H D (.lst []) = H1 at *
      have q1 : (decide (V.str "turn" = V.str "meet")) = false := by decide
      have q2 : (decide (V.str "turn" = V.str "run")) = false := by decide
      refine ⟨_, rfl, rfl, _, rfl, ?_⟩
      dsimp only
      rw [q1, if_neg (by decide)]
      refine ⟨_, rfl, rfl, _, rfl, ?_⟩
      dsimp only
      rw [q2, if_neg (by decide)]
      refine ⟨_, rfl, x, dx, _, rfl, s1 _ _ h1, lkS (by decide) (lkS (by decide) (lkS (by decide) lkN)), x, m, c, r, mv, t, op, e, rv, rfl, hh.same s1, fun m' H6 b6 h6 => ?_⟩
      exact k m' (.ref TU) H6 ((But.of s1).trans b6) ⟨TU, rfl, fun H' _ => T.tT H'⟩ h6
    | meet b n =>
      obtain ⟨p, rfl, hp⟩ := ho
      refine ⟨_, rfl, p, .str "meet", [.str (roomS b), .int n], rfl, hp.at_, by show 2 ≤ 16000; decide, fun D hD => ?_⟩
      have s1 := same_upd (H := H) (o := .lst [.str (roomS b), .int n]) hD
      have g1 := upd_same (H := H) (a := D) (o := .lst [.str (roomS b), .int n])
      generalize upd H D (.lst [.str (roomS b), .int n]) = H1 at *
      have q1 : (decide (V.str "meet" = V.str "meet")) = true := by decide
      refine ⟨_, rfl, rfl, _, rfl, ?_⟩
      dsimp only
      rw [q1, if_pos rfl]
      refine ⟨_, rfl, x, dx, _, rfl, s1 _ _ h1, lkS (by decide) (lkS (by decide) (lkS (by decide) lkN)), fun q hq => ?_⟩
      have s2 := s1.trans (same_upd (o := .met fMe x) hq)
      have g2 := (same_upd (o := .met fMe x) hq) _ _ g1
      have g3 := upd_same (H := H1) (a := q) (o := .met fMe x)
      generalize upd H1 q (.met fMe x) = H2 at *
      refine ⟨_, rfl, D, _, rfl, .inr (SqL.of g2), g3, x, m, b, c, r, mv, n, t, op, e, rv, rfl, hh.same s2, c0, c1, r0, r1, hc.1, hc.2, fun m' tp H6 b6 e6 h6 => ?_⟩
      have et : (t != turnE (.meet b n)) = t := by cases t <;> rfl
      exact k m' (.ref tp) H6 ((But.of s2).trans b6) ⟨tp, rfl, TupK.of e6⟩ (by rw [et]; exact h6)
    | run ss n =>
      obtain ⟨p, tp, ws, rfl, hp, hw, hs⟩ := ho
      obtain ⟨hl, hok, n0, n1⟩ := hc
      refine ⟨_, rfl, p, .str "run", [.ref tp, .int n], rfl, hp.at_, by show 2 ≤ 16000; decide, fun D hD => ?_⟩
      have s1 := same_upd (H := H) (o := .lst [.ref tp, .int n]) hD
      have g1 := upd_same (H := H) (a := D) (o := .lst [.ref tp, .int n])
      generalize upd H D (.lst [.ref tp, .int n]) = H1 at *
      have q1 : (decide (V.str "run" = V.str "meet")) = false := by decide
      have q2 : (decide (V.str "run" = V.str "run")) = true := by decide
      refine ⟨_, rfl, rfl, _, rfl, ?_⟩
      dsimp only
      rw [q1, if_neg (by decide)]
      refine ⟨_, rfl, rfl, _, rfl, ?_⟩
      dsimp only
      rw [q2, if_pos rfl]
      refine ⟨_, rfl, D, _, rfl, SqL.of g1, rfl, _, _, rfl, _, _, rfl, rfl, ?_⟩
      refine ⟨_, rfl, x, dx, _, rfl, s1 _ _ h1, lkS (by decide) (lkS (by decide) (lkS (by decide) lkN)), ?_⟩
      refine ⟨_, rfl, tp, ws, rfl, .inl (hw.same s1).at_, fun pa pd ha hd nd => ?_⟩
      have nx : x ≠ pa := ne_of_none (s1 _ _ h1) ha
      have s2 : Same H1 (upd (upd H1 pd (.own pa)) pa (.ins C pd [])) := (same_upd hd).trans (same_upd (by rw [upd_ne nd.symm]; exact ha))
      have s12 := s1.trans s2
      have g2 := upd_same (H := upd H1 pd (.own pa)) (a := pa) (o := .ins C pd [])
      generalize upd (upd H1 pd (.own pa)) pa (.ins C pd []) = H2 at *
      refine ⟨pa, pd, ws, ss, rfl, g2, hs.same s12, hl, fun s z => (hok s z).mono c1, fun H3 tq b3 e3 e4 => ⟨rfl, ?_⟩⟩
      have nn : ∀ b o, H b = some o → b ≠ pa := fun b o z => ne_of_none (s1 _ _ z) ha
      have s3 : Same H H3 := fun b o z => b3 _ _ (nn b o z) (s12 _ _ z)
      refine ⟨_, rfl, x, m, pa, c, r, mv, n, t, op, e, rv, ss, rfl, hh.same s3, ⟨pd, tq, ws, e3, e4, hs.same s3⟩, hl, hok, c0, c1, r0, r1, n0, n1, fun m' tr tp' ws' H6 b6 e6 e7 e8 h6 => ?_⟩
      exact k m' (.ref tr) H6 ((But.of s3).trans b6) ⟨tr, tp', ws', rfl, TupK.of e6, TupK.lock e7, e8⟩ h6
theorem okn_House_perform {f fI fMe fRn fTu : Addr} {fd : FuncData} (F : Fun K "perform" "House.perform" s_House_perform f fd) (T : Txt K mg C TU pS gS mc) (M : Mk K C fI) (GI : FnR P w K mg base CX0 3 fI (spInit C)) (OH : HTxt K CH) (BMe : BMeth K CH "meet" fMe) (GMe : FnR P w K mg base (L2N.CX P w) 4 fMe (spMeetE CH CM CE)) (MRn : Meth K CH "run" fRn) (GRn : FnR P w K mg base (L2N.CX P w) 4 fRn (spRunF C CH CM CT)) (MTu : Meth K CH "turn" fTu) (GTu : FnR P w K mg base CX0 4 fTu (spTurn CH CM TU)) : FnOk P w K mg base (L2N.CX P w) 5 f fd ["self", "operation"] (spPerformX K CH CM CE CT) := by
  refine Fun_okN F sc_House_perform (fun vs H Q E h => ?_) (fun cdv A outer s H vs Q E hr h => ?_)
  · obtain ⟨x, m, v, c, r, mv, t, op, e, rv, en, rfl, _⟩ := h
    rfl
  · obtain ⟨x, m, v, c, r, mv, t, op, e, rv, en, rfl, hh, ho, c0, c1, hk⟩ := h
    refine ⟨_, pss_cons (ps_asg (pv 1) (pg_star1 rfl (pg_name (i := 2) sc_House_perform.nd rfl (.inl rfl)) (pg_name (i := 3) sc_House_perform.nd rfl (.inl rfl))))
      (pss_cons (ps_if (pt_cmpR op_eq (pv 2) pe_str (nomark _))
        (pss_one (ps_ret (pe_methS1 (E := E) (pv 0) OH.cl BMe GMe (hr.mono (by decide)) (L2N.passes_call (L2N.takes_of rfl rfl rfl rfl) fun _ _ _ _ h => h) (pv 3)))) pss_nil)
      (pss_cons (ps_if (pt_cmpR op_eq (pv 2) pe_str (nomark _))
        (pss_cons (ps_asg (pv 3) (pg_lst rfl (pgs_cons (pg_name (i := 4) sc_House_perform.nd rfl (.inl rfl)) (pgs_cons (pg_name (i := 5) sc_House_perform.nd rfl (.inl rfl)) pgs_nil))))
        (pss_one (ps_ret (pe_methR (E := E) (pv 0) OH.cl MRn GRn (hr.mono (by decide)) (L2N.passes_call (L2N.takes_of rfl rfl rfl rfl) fun _ _ _ _ h => h) (pa_cons (pe_makeS M GI (hr.mono (by decide)) rfl T.gP pass0 (pv 4)) (pa_cons (pv 5) pa_nil)))))) pss_nil)
      (pss_one (ps_ret (pe_methR0 (pv 0) OH.cl MTu GTu (hr.mono (by decide)) pass0))))), ?_⟩
    obtain ⟨dx, h1⟩ := hh.at_
    rcases hk with ⟨b, n, rfl, n0, n1, cn, k⟩ | ⟨ss, n, rfl, hl, hok, hbig, k⟩
    · obtain ⟨p, rfl, hp⟩ := ho
      refine ⟨_, rfl, p, .str "meet", [.str (roomS b), .int n], rfl, hp.at_, by show 2 ≤ 16000; decide, fun D hD => ?_⟩
      have s1 := same_upd (H := H) (o := .lst [.str (roomS b), .int n]) hD
      have g1 := upd_same (H := H) (a := D) (o := .lst [.str (roomS b), .int n])
      generalize upd H D (.lst [.str (roomS b), .int n]) = H1 at *
      have q1 : (decide (V.str "meet" = V.str "meet")) = true := by decide
      refine ⟨_, rfl, rfl, _, rfl, ?_⟩
      dsimp only
      rw [q1, if_pos rfl]
      refine ⟨_, rfl, x, dx, _, rfl, s1 _ _ h1, lkS (by decide) (lkS (by decide) (lkS (by decide) lkN)), fun q hq => ?_⟩
      have s2 := s1.trans (same_upd (o := .met fMe x) hq)
      have g2 := (same_upd (o := .met fMe x) hq) _ _ g1
      have g3 := upd_same (H := H1) (a := q) (o := .met fMe x)
      generalize upd H1 q (.met fMe x) = H2 at *
      exact ⟨_, rfl, D, _, rfl, .inr (SqL.of g2), g3, x, m, b, c, r, mv, n, t, op, e, rv, rfl, hh.same s2, n0, n1, cn, fun H6 s6 => k H6 (s2.trans s6)⟩
    · obtain ⟨p, tp, ws, rfl, hp, hw, hs⟩ := ho
      refine ⟨_, rfl, p, .str "run", [.ref tp, .int n], rfl, hp.at_, by show 2 ≤ 16000; decide, fun D hD => ?_⟩
      have s1 := same_upd (H := H) (o := .lst [.ref tp, .int n]) hD
      have g1 := upd_same (H := H) (a := D) (o := .lst [.ref tp, .int n])
      generalize upd H D (.lst [.ref tp, .int n]) = H1 at *
      have q1 : (decide (V.str "run" = V.str "meet")) = false := by decide
      have q2 : (decide (V.str "run" = V.str "run")) = true := by decide
      refine ⟨_, rfl, rfl, _, rfl, ?_⟩
      dsimp only
      rw [q1, if_neg (by decide)]
      refine ⟨_, rfl, rfl, _, rfl, ?_⟩
      dsimp only
      rw [q2, if_pos rfl]
      refine ⟨_, rfl, D, _, rfl, SqL.of g1, rfl, _, _, rfl, _, _, rfl, rfl, ?_⟩
      refine ⟨_, rfl, x, dx, _, rfl, s1 _ _ h1, lkS (by decide) (lkS (by decide) (lkS (by decide) lkN)), ?_⟩
      refine ⟨_, rfl, tp, ws, rfl, .inl (hw.same s1).at_, fun pa pd ha hd nd => ?_⟩
      have s2 : Same H1 (upd (upd H1 pd (.own pa)) pa (.ins C pd [])) := (same_upd hd).trans (same_upd (by rw [upd_ne nd.symm]; exact ha))
      have s12 := s1.trans s2
      have g2 := upd_same (H := upd H1 pd (.own pa)) (a := pa) (o := .ins C pd [])
      generalize upd (upd H1 pd (.own pa)) pa (.ins C pd []) = H2 at *
      refine ⟨pa, pd, ws, ss, rfl, g2, hs.same s12, hl, hok, fun H3 tq b3 e3 e4 => ⟨rfl, ?_⟩⟩
      have nn : ∀ b o, H b = some o → b ≠ pa := fun b o z => ne_of_none (s1 _ _ z) ha
      have s3 : Same H H3 := fun b o z => b3 _ _ (nn b o z) (s12 _ _ z)
      exact ⟨_, rfl, x, m, pa, c, r, mv, n, t, op, e, rv, ss, rfl, hh.same s3, ⟨pd, tq, ws, e3, e4, hs.same s3⟩, hl, c0, c1, hbig, fun i H6 d fa s6 hd6 => k i H6 d fa (s3.trans s6) hd6⟩
end
end Cc

/-! Plans that are refused, plans joined of many, alternating needs. -/
namespace Cc
open PySem PySem.Spec PyProof.Rows L2
/-- two promises of one def -/
theorem fnr_two {P : Program} {w : World} {K : PySem.W.Frag} {mg : Str → Option Value} {base : Heap} {CX : CXT} {k : Nat} {f : Addr} {sp sq : Sp} (F : FnR P w K mg base CX k f sp) (G : FnR P w K mg base CX k f sq) : FnR P w K mg base CX k f (fun vs H Q E => sp vs H Q E ∨ sq vs H Q E) := by
  intro A outer s H us vs Q E hr e0 r h
  rcases h with h | h
  · exact F A outer s H us vs Q E hr e0 r h
  · exact G A outer s H us vs Q E hr e0 r h
/-- .. the first of which never raises -/
theorem fnr_and {P : Program} {w : World} {K : PySem.W.Frag} {mg : Str → Option Value} {base : Heap} {k : Nat} {f : Addr} {sp sq : Sp} (F : FnR P w K mg base CX0 k f sp) (G : FnR P w K mg base (L2.CX P w) k f sq) : FnR P w K mg base (L2.CX P w) k f (fun vs H Q E => sp vs H Q E ∨ sq vs H Q E) := by
  intro A outer s H us vs Q E hr e0 r h
  rcases h with h | h
  · refine codeAny_mono (F A outer s H us vs Q E hr e0 r h) fun z s' hq => ?_
    cases z with
    | error e => exact (False.elim hq)
    | ok fl =>
      cases fl with
      | ret u => exact hq
      | next => exact hq
      | brk => exact hq
      | cont => exact hq
  · exact G A outer s H us vs Q E hr e0 r h
/-- items that are no step -/
inductive BadX : List V → Prop
  | num (b : Bool) (n : Int) (h : ¬ (0 ≤ n ∧ n ≤ 1000000000000000000)) : BadX [.str (roomS b), .int n]
  | green (n : Int) : BadX [.str "green", .int n]
  | turn (n : Int) : BadX [.str "turn", .int n]
  | one : BadX [.str "red"]
  | none : BadX []
  | three (n m : Int) : BadX [.str "red", .int n, .int m]
def BadAt (H : Hp) (v : V) : Prop := ∃ t xs, v = .ref t ∧ H t = some (.tup xs) ∧ BadX xs
theorem BadAt.same {H H' : Hp} {v : V} (h : BadAt H v) (s : Same H H') : BadAt H' v := let ⟨t, xs, e, a, b⟩ := h; ⟨t, xs, e, s _ _ a, b⟩
def spIsStepX : Sp := fun vs H Q _ => ∃ (v : V), vs = [v] ∧ BadAt H v ∧ ∀ H', Same H H' → Q (.bl false) H'
def spIsStepA : Sp := fun vs H Q E => spIsStep vs H Q E ∨ spIsStepX vs H Q E
def spInitSX (C CP : Addr) : Sp := fun vs H _ E => ∃ (x tp dx : Addr) (ws : List V) (i : Nat), vs = [.ref x, .ref tp] ∧ H x = some (.ins C dx []) ∧ TupP H tp ws ∧ i < ws.length ∧ i ≤ 60 ∧ (∀ j, j < i → ∃ v s, ws[j]? = some v ∧ StepAt H v s ∧ s.ok 1000000000000000000) ∧ (i = 60 ∨ ∃ v, ws[i]? = some v ∧ BadAt H v) ∧
  ∀ H' d, Same H H' → H' d = none → E (.ref CP) (some d) (upd H' d (.xd [(("index" : Str), .int (i : Nat))]))
def spInitX (C CP : Addr) : Sp := fun vs H _ E => ∃ (x dx : Addr) (ws : List V) (i : Nat), vs = .ref x :: ws ∧ H x = some (.ins C dx []) ∧ ws.length ≤ 10000 ∧ i < ws.length ∧ i ≤ 60 ∧ (∀ j, j < i → ∃ v s, ws[j]? = some v ∧ StepAt H v s ∧ s.ok 1000000000000000000) ∧ (i = 60 ∨ ∃ v, ws[i]? = some v ∧ BadAt H v) ∧
  ∀ H' d, Same H H' → H' d = none → E (.ref CP) (some d) (upd H' d (.xd [(("index" : Str), .int (i : Nat))]))
def spInitA (C CP : Addr) : Sp := fun vs H Q E => spInit C vs H Q E ∨ spInitX C CP vs H Q E
theorem StepAt.same {H H' : Hp} {v : V} {s : Stp} (h : StepAt H v s) (k : Same H H') : StepAt H' v s := let ⟨t, e, a⟩ := h; ⟨t, e, k _ _ a⟩
/-- a plan at a value -/
def PAt (C : Addr) (H : Hp) (v : V) (ss : List Stp) : Prop := ∃ o, v = .ref o ∧ PlanAt C H o ss
def spJoinA (C CP : Addr) : Sp := fun vs H Q E => ∃ (x : Addr) (ss : List Stp) (os : List V) (uss : List (List Stp)), vs = .ref x :: os ∧ PlanAt C H x ss ∧ Paired (PAt C H) os uss ∧ os.length ≤ 100 ∧ (∀ s ∈ ss ++ uss.flatten, s.ok 1000000000000000000) ∧ (ss ++ uss.flatten).length ≤ 10000 ∧
  ((ss ++ uss.flatten).length ≤ 60 → ∀ p H', Same H H' → PlanAt C H' p (ss ++ uss.flatten) → Q (.ref p) H') ∧ (60 < (ss ++ uss.flatten).length → ∀ H' d, Same H H' → H' d = none → E (.ref CP) (some d) (upd H' d (.xd [(("index" : Str), .int 60)])))
def spJoinSA (C CP : Addr) : Sp := fun vs H Q E => ∃ (x tp : Addr) (ss : List Stp) (os : List V) (uss : List (List Stp)), vs = [.ref x, .ref tp] ∧ H tp = some (.tup os) ∧ PlanAt C H x ss ∧ Paired (PAt C H) os uss ∧ (∀ s ∈ ss ++ uss.flatten, s.ok 1000000000000000000) ∧ (ss ++ uss.flatten).length ≤ 10000 ∧
  ((ss ++ uss.flatten).length ≤ 60 → ∀ p H', Same H H' → PlanAt C H' p (ss ++ uss.flatten) → Q (.ref p) H') ∧ (60 < (ss ++ uss.flatten).length → ∀ H' d, Same H H' → H' d = none → E (.ref CP) (some d) (upd H' d (.xd [(("index" : Str), .int 60)])))
theorem eqv_badx {xs : List V} (h : BadX xs) (n2 : xs.length ≠ 2) : ∃ ds, (∀ (K : PySem.W.Frag) (H : Hp), DpAll K H xs ds) ∧ SeqAt.shaped (.tuple ds) = true ∧ PyData.eqv (.tuple ds) (.tuple [.str "turn"]) = false := by
  cases h with
  | num b n h => exact (n2 rfl).elim
  | green n => exact (n2 rfl).elim
  | turn n => exact (n2 rfl).elim
  | one => exact ⟨[.str "red"], fun K H => .cons (.str _) .nil, by decide +kernel, by decide +kernel⟩
  | none => exact ⟨[], fun K H => .nil, by decide +kernel, by decide +kernel⟩
  | three n m =>
    refine ⟨[.str "red", .int n, .int m], fun K H => .cons (.str _) (.cons (.int _) (.cons (.int _) .nil)), ?_, by simp [PyData.eqv, PyData.eqvAll]⟩
    have h1 : PyData.strOk "red" = true := by decide +kernel
    simp [SeqAt.shaped, PyData.canLay0, PyData.canLayAll0, PyData.depth, PyData.depthAll, h1]
section
variable {P : Program} {w : World} {K : PySem.W.Frag} {mg : Str → Option Value} {base : Heap} {C CP TU pS gS : Addr} {mc : Value}
theorem ok_isstepX {f fN : Addr} {fd : FuncData} (F : Fun K "is_step" "is_step" sIsStep f fd) (T : Txt K mg C TU pS gS mc) (N : Dn P w K mg base 1 "is_number" fN spIsNum) : FnOk P w K mg base CX0 2 f fd ["step"] spIsStepX := by
  refine F.ok scIsStep (fun vs H Q E h => ?_) (fun cdv A outer s H vs Q E hr h => ?_)
  · obtain ⟨v, rfl, _⟩ := h
    rfl
  · obtain ⟨v, rfl, ⟨t, xs, rfl, ht, hb⟩, k⟩ := h
    obtain ⟨u, hu⟩ := T.cc
    refine ⟨_, pss_cons (ps_if (pt_not (pt_val (pe_callB call_isi (by rfl) T.b.isinstance (by decide +kernel) (pa_cons (pv 0) (pa_cons (pe_bltn (v := .ty "tuple") (by rfl) T.b.tuple (by decide +kernel) rfl) pa_nil))))) (pss_one (ps_ret pe_bl)) pss_nil)
      (pss_cons (ps_if (pt_cmpR op_eq (pe_callB call_len (by rfl) T.b.len PySem.boot_len (pa_cons (pv 0) pa_nil)) pe_int (nomark _))
        (pss_one (ps_ret (pe_and (pe_cmpR op_in_seq (pe_ix ix_tup (pv 0) pe_int (fun _ _ => rfl)) (pe_tup (pa_cons pe_str (pa_cons pe_str pa_nil))) (by rfl))
          (pe_one (pe_callR N.ok hr rfl N.at_ N.kp pass0 (pa_cons (pe_ix ix_tup (pv 0) pe_int (fun _ _ => rfl)) (pa_cons pe_int (pa_cons (ClX.pe_cval (pe_glob (v := .ref C) rfl T.gP rfl)) pa_nil)))))))) pss_nil)
      (pss_one (ps_ret (pe_cmpR (op_eqD hr.units) (pv 0) (pe_glob (v := .ref TU) rfl T.gT rfl) (nomark _))))), ?_⟩
    refine ⟨_, rfl, _, _, _, _, true, rfl, .ty "tuple", .base (.tup ht), kit_ty (by decide +kernel), true, rfl, iteF ?_⟩
    refine ⟨_, rfl, _, _, rfl, .inr ⟨_, SqT.of ht, rfl⟩, rfl, _, rfl, ?_⟩
    by_cases n2 : xs.length = 2
    · obtain ⟨r, n, e, hn⟩ : ∃ (r : Str) (n : Int), xs = [.str r, .int n] ∧ (inV (.str r) [.str "red", .str "blue"] = true → ¬ (0 ≤ n ∧ n ≤ 1000000000000000000)) := by
        cases hb with
        | num b n h => exact ⟨_, n, rfl, fun _ => h⟩
        | green n => exact ⟨_, n, rfl, fun z => absurd z (by decide +kernel)⟩
        | turn n => exact ⟨_, n, rfl, fun z => absurd z (by decide +kernel)⟩
        | one => cases n2
        | none => cases n2
        | three n m => cases n2
      subst e
      refine ifT (by rfl) ⟨_, rfl, t, _, _, _, rfl, rfl, SqT.of ht, at_of (j := 0) rfl rfl, by show 2 ≤ sizeLine; decide, fun p hp => ?_⟩
      have s1 := same_upd (o := .tup [.str "red", .str "blue"]) hp
      refine ⟨p, _, rfl, .inr (SqT.of upd_same), rfl, rfl, _, rfl, ?_⟩
      by_cases c : inV (.str r) [.str "red", .str "blue"] = true
      · refine ifT c ⟨_, rfl, t, _, _, _, rfl, rfl, SqT.of (s1 _ _ ht), at_of (j := 1) rfl rfl, C, mc, _, u, rfl, T.rd, hu, n, 0, _, rfl, ?_⟩
        rw [decide_eq_false (hn c)]
        exact k _ s1
      · have c' : inV (.str r) [.str "red", .str "blue"] = false := by simpa using c
        refine ifF c' ?_
        exact k _ s1
    · obtain ⟨ds, hd, h1, h2⟩ := eqv_badx hb n2
      refine ifF (decide_eq_false fun z => n2 (by injection z; omega)) ⟨_, rfl, .tuple ds, .tuple [.str "turn"], .tup (SqT.of ht) (hd _ _), .tup (T.tT _) (.cons (.str _) .nil), h1, by decide +kernel, ?_⟩
      rw [h2]
      exact k H (Same.refl H)
theorem ok_initX {f fS fI2 : Addr} {fd : FuncData} (F : Fun K "__init__" "Plan.__init__" sInit f fd) (T : Txt K mg C TU pS gS mc) (N : Dn P w K mg base 2 "is_step" fS spIsStepA) (X : PySem.EiX.EiTxt P K mg "InvalidPlan" CP fI2) : FnR P w K mg base (L2.CX P w) 3 f (spInitX C CP) := by
  obtain ⟨z1, z2, z3, z4, z5, z6, cdv, z7, z8, rfl, lk, hcd⟩ := F.ex
  refine (fn_starZ (ps := ["self"]) (pv := "steps") (sp := spInitSX C CP) (k := 2) lk hcd scInit StX.cxUp (StX.bind_star1 (B := fun us => bindArgs _ ⟨us, []⟩) (fun _ => rfl) (fun _ _ _ => rfl)) fun A outer s H vs Q E hr h => ?_).imp fun vs H Q E h => ?_
  · obtain ⟨x, tp, dx, ws, i0, rfl, e1, e2, hl, h60, hg, hb, k⟩ := h
    obtain ⟨u, hu⟩ := T.cs
    refine ⟨_, pss_cons (ps_for (passes_of rfl) rfl (pi_enumT (by rfl) T.b.enumerate (pa_cons (pv 1) pa_nil))
        (pg_tup rfl (pgs_cons (pg_name (i := 2) scInit.nd rfl (.inl rfl)) (pgs_cons (pg_name (i := 3) scInit.nd rfl (.inl rfl)) pgs_nil)))
        (pss_one (ps_if (PW.pt (pw_or (pt_cmpR op_eq (pv 2) (ClX.pe_cval (pe_glob (v := .ref C) rfl T.gP rfl)) (nomark _))
          (pw_or1 (pt_not (pt_val (pe_callR N.ok hr rfl N.at_ N.kp pass0 (pa_cons (pv 3) pa_nil)))))))
          (pss_one (ps_raise (W := fun cls d _ H => E cls d H) rfl (takes_of rfl rfl rfl rfl) (pmk_idx (k := 1) X (hr.mono (by decide)) (pv 2) rfl))) pss_nil)))
      pss_never, ?_⟩
    refine ⟨_, rfl, tp, ws, rfl, e2.sq, ?_⟩
    refine for_it (walk_enumT (xs := ws)) (fun i σ H' => i ≤ i0 ∧ ∃ a b, σ = [some (.ref x), some (.ref tp), a, b] ∧ Same H H') ⟨Nat.zero_le _, none, none, rfl, Same.refl H⟩ (fun i σ H' _ ⟨_, _, _, _, s1⟩ => (e2.same s1).sq) ?_ ?_
    · rintro i v σ H1 H2 hi ⟨ile, a, b, rfl, s1⟩ ⟨q, y1, y2, rfl, n1, rfl, z1, z2⟩
      have s2 : Same H (upd H1 q (.tup [y1, y2])) := s1.trans (same_upd n1)
      cases z1
      refine ⟨q, _, rfl, SqT.of upd_same, rfl, _, _, rfl, _, _, rfl, rfl, ?_⟩
      refine ⟨_, rfl, C, mc, _, u, rfl, T.rd, hu, rfl, _, rfl, ?_⟩
      by_cases c60 : i = 60
      · have ei : i = i0 := by omega
        subst ei
        refine ifT (decide_eq_true (by rw [c60]; rfl)) ⟨_, rfl, (i : Int), rfl, ⟨by omega, by omega⟩, fun d hd => ?_⟩
        exact k _ d s2 hd
      · refine ifF (decide_eq_false (fun z => c60 (by injection z with z; omega))) ?_
        by_cases il : i < i0
        · obtain ⟨v', st, hv', hst, okst⟩ := hg i il
          have ev : v' = y2 := Option.some.inj (hv'.symm.trans z2)
          subst ev
          refine ⟨_, rfl, .inl ⟨_, st, rfl, hst.same s2, okst, fun H3 s3 => ⟨_, rfl, ?_⟩⟩⟩
          exact iteF ⟨il, _, _, rfl, s2.trans s3⟩
        · have ei : i = i0 := by omega
          subst ei
          rcases hb with hb | ⟨v', hv', hb⟩
          · exact (c60 hb).elim
          · have ev : v' = y2 := Option.some.inj (hv'.symm.trans z2)
            subst ev
            refine ⟨_, rfl, .inr ⟨_, rfl, hb.same s2, fun H3 s3 => ⟨_, rfl, ?_⟩⟩⟩
            exact iteT ⟨_, rfl, (i : Int), rfl, ⟨by omega, by omega⟩, fun d hd => k _ d (s2.trans s3) hd⟩
    · rintro σ H' ⟨ile, a, b, rfl, s1⟩
      exact absurd hl (by omega)
  · obtain ⟨x, dx, ws, i, rfl, e1, h100, hl, h60, hg, hb, k⟩ := h
    refine ⟨[.ref x], ws, rfl, rfl, ?_, fun p ob hp hd => ?_⟩
    · exact Nat.le_trans h100 (by decide)
    · have s1 : Same H (upd H p (.frz ob (.tup ws))) := same_upd hp
      refine ⟨x, p, dx, ws, i, rfl, s1 _ _ e1, ⟨ob, hd, upd_same⟩, hl, h60, fun j hj => ?_, hb.imp id fun ⟨v, a, b⟩ => ⟨v, a, b.same s1⟩, fun H' d s2 hd2 => k H' d (s1.trans s2) hd2⟩
      obtain ⟨v, s, a, b, c⟩ := hg j hj
      exact ⟨v, s, a, b.same s1, c⟩
theorem PAt.same {H H' : Hp} {v : V} {ss : List Stp} (h : PAt C H v ss) (k : Same H H') : PAt C H' v ss := let ⟨o, e, p⟩ := h; ⟨o, e, p.same k⟩
theorem ok_joinA {f fI CP : Addr} {fd fdS : FuncData} (F : Fun K "joined" "Plan.joined" sJoined f fd) (T : Txt K mg C TU pS gS mc) (G : Gs P w K mg base C gS fdS) (M : Mk K C fI) (GI : FnR P w K mg base (L2.CX P w) 3 fI (spInitA C CP)) : FnR P w K mg base (L2.CX P w) 5 f (spJoinA C CP) := by
  obtain ⟨z1, z2, z3, z4, z5, z6, cdv, z7, z8, rfl, lk, hcd⟩ := F.ex
  refine (StX.fn_star (ps := ["self"]) (pv := "others") (sp := spJoinSA C CP) (k := 4) lk hcd scJoined StX.cxUp (StX.bind_star1 (B := fun us => bindArgs _ ⟨us, []⟩) (fun _ => rfl) (fun _ _ _ => rfl)) fun A outer s H vs Q E hr h => ?_).imp fun vs H Q E h => ?_
  · obtain ⟨x, tp, ss, os, uss, rfl, e2, p1, hP, hs, hl, k1, k2⟩ := h
    obtain ⟨dx, t1, ws, e1, e3, e4⟩ := id p1
    have hr1 : Room 2 _ := hr.mono (by decide)
    refine ⟨_, pss_cons (ps_set (i := 2) scJoined.nd rfl (.inl rfl) (pe_callTy call_list_of (by rfl) T.b.list (by decide +kernel) (pa_cons (pe_prop (pv 0) T.cl T.pr G.ok hr1 G.b .nil pass0 rfl) pa_nil)))
      (pss_cons (ps_for (passes_of rfl) rfl (pi_tup (pv 1)) (pg_name (i := 3) scJoined.nd rfl (.inl rfl))
        (pss_one (ps_expr (pe_bm PySem.F.plainAttrs_list PySem.F.slot_list_extend PySem.F.type_list_extend mt_extendT (pv 2) (pa_cons (pe_prop (pv 3) T.cl T.pr G.ok hr1 G.b .nil pass0 rfl) pa_nil)))))
      (pss_one (ps_ret (pe_makeS (Ez := E) M GI hr rfl T.gP (passes_call (takes_of rfl rfl rfl rfl) fun _ _ _ _ h => h) (pv 2))))), ?_⟩
    refine ⟨_, rfl, x, dx, _, rfl, e1, x, dx, _, _, rfl, e1, lk_self, t1, ws, rfl, .inr e3.sq, fun l hl0 => ?_⟩
    have s1 : Same H (upd H l (.lst ws)) := same_upd hl0
    have lo : os.length = uss.length := Paired.length hP
    refine ⟨_, rfl, tp, rfl, ⟨_, SqT.of (s1 _ _ e2)⟩, for_tup (K := K) (a := tp) (xs := os) (fun i σ H' => ∃ v ys, σ = [some (.ref x), some (.ref tp), some (.ref l), v] ∧ But l H H' ∧ H' l = some (.lst ys) ∧ Steps H ys (ss ++ (uss.take i).flatten))
      ⟨none, ws, rfl, But.of s1, upd_same, by rw [List.take_zero]; show Steps H ws (ss ++ []); rw [List.append_nil]; exact e4⟩ (fun i σ H' _ ⟨_, _, _, b1, _⟩ => SqT.of (b1 _ _ (ne_of_none e2 hl0) e2)) ?_ ?_⟩
    · rintro i y σ H' hi ⟨v, ys, rfl, b1, b2, b3⟩
      obtain ⟨us, hus, o, rfl, po⟩ : ∃ us, uss[i]? = some us ∧ PAt C H y us := by
        have il : i < uss.length := by rw [← lo]; exact (List.getElem?_eq_some_iff.mp hi).1
        refine ⟨uss[i], List.getElem?_eq_getElem il, ?_⟩
        have z : ∀ {os : List V} {uss : List (List Stp)} {i : Nat} {y : V} {us : List Stp}, Paired (PAt C H) os uss → os[i]? = some y → uss[i]? = some us → PAt C H y us := by
          intro os uss
          induction os generalizing uss with
          | nil => intro i y us _ h; cases h
          | cons a os ih =>
            intro i y us hp h1 h2
            cases hp with
            | cons ha hr =>
              cases i with
              | zero =>
                cases h1
                cases h2
                exact ha
              | succ i => exact ih hr h1 h2
        exact z hP hi (List.getElem?_eq_getElem il)
      obtain ⟨dy, t2, zs, f1, f3, f4⟩ := id po
      have g1 := b1 _ _ (ne_of_none f1 hl0) f1
      have g3 := f3.but b1 (f3.ne hl0)
      have et : uss.take (i + 1) = uss.take i ++ [us] := by
        have il : i < uss.length := (List.getElem?_eq_some_iff.mp hus).1
        rw [List.take_add_one, hus]
        rfl
      have hlen : ys.length + zs.length ≤ 10000 := by
        have z1 : (ss ++ (uss.take (i + 1)).flatten).length ≤ (ss ++ uss.flatten).length := by
          have : uss.flatten = (uss.take (i + 1)).flatten ++ (uss.drop (i + 1)).flatten := by rw [← List.flatten_append, List.take_append_drop]
          rw [this, ← List.append_assoc, List.length_append (bs := (uss.drop (i + 1)).flatten)]
          omega
        rw [et, List.flatten_append, ← List.append_assoc, List.length_append (bs := [us].flatten), ← b3.length] at z1
        have z2 : [us].flatten = us := by simp
        rw [z2, ← f4.length] at z1
        omega
      refine ⟨_, rfl, .inl ⟨rfl, _, SqL.of b2⟩, _, rfl, o, dy, _, rfl, g1, o, dy, _, _, rfl, g1, lk_self, l, t2, ys, zs, rfl, rfl, b2, g3.sq, Nat.le_trans hlen (by decide), ?_⟩
      refine ⟨_, ys ++ zs, rfl, fun b o n e => ?_, upd_same, ?_⟩
      · rw [upd_ne n]
        exact b1 b o n e
      · rw [et, List.flatten_append, ← List.append_assoc]
        have z2 : [us].flatten = us := by simp
        rw [z2]
        exact b3.append f4
    · rintro σ H' ⟨v, ys, rfl, b1, b2, b3⟩
      rw [lo, List.take_length] at b3
      have stp : Steps H' ys (ss ++ uss.flatten) := b3.mono fun t xs e => b1 _ _ (ne_of_none e hl0) e
      have sH : Same H H' := fun b o e => b1 _ _ (ne_of_none e hl0) e
      refine ⟨_, rfl, l, _, rfl, .inr (SqL.of b2), fun q dq hq hdq hne => ?_⟩
      have s2 : Same H' (upd (upd H' dq (.own q)) q (.ins C dq [])) := fun b o e => by
        rw [upd_ne (ne_of_none e hq), upd_ne (ne_of_none e hdq)]
        exact e
      by_cases c60 : (ss ++ uss.flatten).length ≤ 60
      · refine .inl ⟨q, dq, _, ss ++ uss.flatten, rfl, upd_same, stp.same s2, c60, hs, fun H2 tq b3 b4 b5 => ⟨rfl, ?_⟩⟩
        have s3 : Same H' H2 := fun b o e => b3 _ _ (ne_of_none e hq) (s2 _ _ e)
        exact k1 c60 q H2 (sH.trans s3) ⟨dq, tq, _, b4, b5, stp.same s3⟩
      · have c60' : 60 < (ss ++ uss.flatten).length := by omega
        have ly : ys.length = (ss ++ uss.flatten).length := stp.length
        refine .inr ⟨q, dq, _, 60, rfl, upd_same, by omega, by omega, Nat.le_refl _, fun j hj => ?_, .inl rfl, fun H2 d s3 hd => k2 c60' H2 d (sH.trans (s2.trans s3)) hd⟩
        have jl : j < ys.length := by omega
        obtain ⟨st, hst, sa⟩ := (stp.same s2).get (List.getElem?_eq_getElem jl)
        exact ⟨_, st, List.getElem?_eq_getElem jl, sa, hs st (List.mem_of_getElem? hst)⟩
  · obtain ⟨x, ss, os, uss, rfl, p1, hP, h100, hs, hl, k1, k2⟩ := h
    refine ⟨[.ref x], os, rfl, rfl, Nat.le_trans h100 (by decide), fun p hp => ?_⟩
    have s1 : Same H (upd H p (.tup os)) := same_upd hp
    exact ⟨x, p, ss, os, uss, rfl, upd_same, p1.same s1, Paired.mapP hP fun _ _ z => z.same s1, hs, hl, fun c p' H' s2 => k1 c p' H' (s1.trans s2), fun c H' d s2 hd => k2 c H' d (s1.trans s2) hd⟩
end
end Cc

/-! Whether a value has the form of an operation. -/
namespace Cc
open PySem PySem.Spec PyProof.Rows L2
/-- steps that no plan has: the first wrong one stands at i -/
def wrongAt (H : Hp) (ws : List V) : Prop := ws.length ≤ 10000 ∧ ∃ i, i < ws.length ∧ i ≤ 60 ∧ (∀ j, j < i → ∃ v s, ws[j]? = some v ∧ StepAt H v s ∧ s.ok 1000000000000000000) ∧ (i = 60 ∨ ∃ v, ws[i]? = some v ∧ BadAt H v)
theorem wrongAt.same {H H' : Hp} {ws : List V} (h : wrongAt H ws) (k : Same H H') : wrongAt H' ws :=
  let ⟨l, i, a, b, c, d⟩ := h
  ⟨l, i, a, b, fun j z => let ⟨v, s, e1, e2, e3⟩ := c j z; ⟨v, s, e1, e2.same k, e3⟩, d.imp id fun ⟨v, e1, e2⟩ => ⟨v, e1, e2.same k⟩⟩
def spAreSteps (K : PySem.W.Frag) : Sp := fun vs H Q _ => ∃ (tp : Addr) (ws : List V), vs = [.ref tp] ∧
  (((∃ ss, TupK K H tp ws ∧ Steps H ws ss ∧ ss.length ≤ 60 ∧ (∀ s ∈ ss, s.ok 1000000000000000000)) ∧ ∀ H', Same H H' → Q (.bl true) H') ∨
   ((TupK K H tp ws ∧ wrongAt H ws ∨ H tp = some (.lst ws)) ∧ ∀ H', Same H H' → Q (.bl false) H'))
theorem tyx_tup {K : PySem.W.Frag} {H : Hp} {p : Addr} {xs : List V} (h : SqT K H p xs) : TyX K H (.ref p) (.type "tuple") := by
  rcases h with h | ⟨o, its, n, e, c, _⟩
  · rcases h with h | ⟨o, h⟩
    · exact .base (.tup h)
    · exact .fTuple h
  · exact .kTuple e c
section
variable {P : Program} {w : World} {K : PySem.W.Frag} {mg : Str → Option Value} {base : Heap} {C CP TU pS gS : Addr} {mc : Value}
abbrev s_are_steps : Stmt := top 34
abbrev n_are_steps : List Str := ["steps"]
theorem sc_are_steps : FnScope n_are_steps ["steps"] (defScope s_are_steps) := ⟨rfl, rfl, rfl, by decide +kernel, rfl, by decide +kernel, by decide +kernel⟩
theorem ok_are_steps {f fI : Addr} {fd : FuncData} (F : Fun K "are_steps" "are_steps" s_are_steps f fd) (T : Txt K mg C TU pS gS mc) (M : Mk K C fI) (GIA : FnR P w K mg base (L2.CX P w) 3 fI (spInitA C CP)) (gCP : mg "InvalidPlan" = some (.ref CP)) (xCP : PySem.W.exmOne K (.ref CP) (.ref CP) = some true) : FnOk P w K mg base CX0 5 f fd ["steps"] (spAreSteps K) := by
  refine F.ok sc_are_steps (fun vs H Q E h => ?_) (fun cdv A outer s H vs Q E hr h => ?_)
  · obtain ⟨tp, ws, rfl, _⟩ := h
    rfl
  · obtain ⟨tp, ws, rfl, hk⟩ := h
    refine ⟨_, pss_cons (ps_if (pt_not (pt_val (pe_callB call_isi (by rfl) T.b.isinstance (by decide +kernel) (pa_cons (pv 0) (pa_cons (pe_bltn (v := .ty "tuple") (by rfl) T.b.tuple (by decide +kernel) rfl) pa_nil)))))
        (pss_one (ps_ret pe_bl)) pss_nil)
      (pss_cons (ps_try_only (X := (cxOf CX0 P w K mg base n_are_steps "are_steps" (defScope s_are_steps) f cdv A outer s H E).nox) (c := .ref CP) (tb := fun W => tDrop (tMakeS K C (spInitA C CP) (fun cls d H2 => ∀ σ2, W cls d σ2 H2) (tVar 0))) rfl rfl ⟨rfl, by decide, .inl gCP⟩ L2.takes0 (fun W pn xe tk _ => pss_one (ps_expr (pe_makeS (X := ((cxOf CX0 P w K mg base n_are_steps "are_steps" (defScope s_are_steps) f cdv A outer s H E).nox).tr pn xe) (x := "Plan") (Ez := fun cls d H2 => ∀ σ2, W cls d σ2 H2) M GIA (hr.mono (by decide)) rfl T.gP (passes_call tk fun _ _ σ2 _ h2 => h2 σ2) (pv 0)))) (fun a oe cls d pn _ _ => pss_one (ps_ret pe_bl)))
      (pss_one (ps_ret pe_bl))), ?_⟩
    have made : ∀ (H1 : Hp) (pa pd : Addr), H1 pa = none → H1 pd = none → pd ≠ pa → Same H1 (upd (upd H1 pd (.own pa)) pa (.ins C pd [])) := fun H1 pa pd ha hd nd => (same_upd hd).trans (same_upd (by rw [upd_ne nd.symm]; exact ha))
    rcases hk with ⟨⟨ss, ht, hs, hl, hok⟩, k⟩ | ⟨⟨ht, ll, i, i0, i1, good, bad⟩ | hb, k⟩
    · refine ⟨_, rfl, _, _, _, _, true, rfl, .ty "tuple", tyx_tup ht.at_, kit_ty (by decide +kernel), true, rfl, ?_⟩
      refine iteF ?_
      refine ⟨_, rfl, tp, ws, rfl, .inl ht.at_, fun pa pd ha hd nd => .inl ?_⟩
      have s2 := made H pa pd ha hd nd
      have g2 := upd_same (H := upd H pd (.own pa)) (a := pa) (o := .ins C pd [])
      generalize upd (upd H pd (.own pa)) pa (.ins C pd []) = H2 at *
      refine ⟨pa, pd, ws, ss, rfl, g2, hs.same s2, hl, hok, fun H3 tq b3 e3 e4 => ⟨rfl, ?_⟩⟩
      exact k H3 fun b o z => b3 _ _ (ne_of_none z ha) (s2 _ _ z)
    · refine ⟨_, rfl, _, _, _, _, true, rfl, .ty "tuple", tyx_tup ht.at_, kit_ty (by decide +kernel), true, rfl, ?_⟩
      refine iteF ?_
      refine ⟨_, rfl, tp, ws, rfl, .inl ht.at_, fun pa pd ha hd nd => .inr ?_⟩
      have s2 := made H pa pd ha hd nd
      have g2 := upd_same (H := upd H pd (.own pa)) (a := pa) (o := .ins C pd [])
      generalize upd (upd H pd (.own pa)) pa (.ins C pd []) = H2 at *
      refine ⟨pa, pd, ws, i, rfl, g2, ll, i0, i1, fun j z => ?_, bad.imp id fun ⟨v, e1, e2⟩ => ⟨v, e1, e2.same s2⟩, fun H3 d s3 hd3 σ2 => ⟨true, xCP, fun _ a _ => ?_, fun z => nomatch z⟩⟩
      · obtain ⟨v, s, e1, e2, e3⟩ := good j z
        exact ⟨v, s, e1, e2.same s2, e3⟩
      · exact k _ ((s2.trans s3).trans (same_upd hd3))
    · refine ⟨_, rfl, _, _, _, _, false, rfl, .ty "tuple", .base (.lst hb), kit_ty (by decide +kernel), false, rfl, ?_⟩
      refine iteT ?_
      exact k H (Same.refl H)
end
end Cc

/-! Whether a value has the form of an operation. -/
namespace Cc
open PySem PySem.Spec PyProof.Rows L2
/-- operations that some house can do -/
def formE : Ent → Prop
  | .turn => True
  | .meet _ _ => True
  | .run ss _ => ss.length ≤ 60 ∧ ∀ s ∈ ss, s.ok 1000000000000000000
/-- values that are no operation -/
def OddAt (K : PySem.W.Frag) (H : Hp) (v : V) : Prop :=
  v = .non ∨ (∃ s, v = .str s) ∨ (∃ p xs, v = .ref p ∧ H p = some (.tup xs) ∧ (xs = [] ∨ xs = [.str "jump"] ∨ xs = [.str "meet", .str "red"] ∨ ∃ n, xs = [.str "turn", .int n])) ∨
  (∃ p tp ws n, v = .ref p ∧ H p = some (.tup [.str "run", .ref tp, .int n]) ∧ (TupK K H tp ws ∧ wrongAt H ws ∨ H tp = some (.lst ws)))
def spIsOp (K : PySem.W.Frag) : Sp := fun vs H Q _ => ∃ (v : V), vs = [v] ∧ ((∃ en, OpAt K H v en ∧ formE en ∧ ∀ H', Same H H' → Q (.bl true) H') ∨ (OddAt K H v ∧ ∀ H', Same H H' → Q (.bl false) H'))
/-- a tuple of plain values against ("turn",) -/
def PlainIs (xs : List V) (b : Bool) : Prop := ∃ ds, (∀ (K : PySem.W.Frag) (H : Hp), DpAll K H xs ds) ∧ SeqAt.shaped (.tuple ds) = true ∧ PyData.eqv (.tuple ds) (.tuple [.str "turn"]) = b
theorem plain_turn : PlainIs [.str "turn"] true := ⟨[.str "turn"], fun K H => .cons (.str _) .nil, by decide +kernel, by decide +kernel⟩
theorem plain_nil : PlainIs [] false := ⟨[], fun K H => .nil, by decide +kernel, by decide +kernel⟩
theorem plain_jump : PlainIs [.str "jump"] false := ⟨[.str "jump"], fun K H => .cons (.str _) .nil, by decide +kernel, by decide +kernel⟩
theorem plain_meet2 : PlainIs [.str "meet", .str "red"] false := ⟨[.str "meet", .str "red"], fun K H => .cons (.str _) (.cons (.str _) .nil), by decide +kernel, by decide +kernel⟩
theorem plain_turn2 (n : Int) : PlainIs [.str "turn", .int n] false := by
  refine ⟨[.str "turn", .int n], fun K H => .cons (.str _) (.cons (.int _) .nil), ?_, by simp [PyData.eqv, PyData.eqvAll]⟩
  have h1 : PyData.strOk "turn" = true := by decide +kernel
  simp [SeqAt.shaped, PyData.canLay0, PyData.canLayAll0, PyData.depth, PyData.depthAll, h1]
theorem plain_meet (b : Bool) (n : Int) : PlainIs [.str "meet", .str (roomS b), .int n] false := by
  refine ⟨[.str "meet", .str (roomS b), .int n], fun K H => .cons (.str _) (.cons (.str _) (.cons (.int _) .nil)), ?_, by simp [PyData.eqv, PyData.eqvAll]⟩
  have h1 : PyData.strOk "meet" = true := by decide +kernel
  have h2 : PyData.strOk (roomS b) = true := by cases b <;> decide +kernel
  simp [SeqAt.shaped, PyData.canLay0, PyData.canLayAll0, PyData.depth, PyData.depthAll, h1, h2]
section
variable {P : Program} {w : World} {K : PySem.W.Frag} {mg : Str → Option Value} {base : Heap} {C CP TU pS gS : Addr} {mc : Value}
abbrev s_is_operation : Stmt := top 33
abbrev n_is_operation : List Str := ["operation"]
theorem sc_is_operation : FnScope n_is_operation ["operation"] (defScope s_is_operation) := ⟨rfl, rfl, rfl, by decide +kernel, rfl, by decide +kernel, by decide +kernel⟩
theorem ok_is_operation {f f_are_steps : Addr} {fd : FuncData} (F : Fun K "is_operation" "is_operation" s_is_operation f fd) (T : Txt K mg C TU pS gS mc) (D_are_steps : Dn P w K mg base 5 "are_steps" f_are_steps (spAreSteps K)) : FnOk P w K mg base CX0 6 f fd ["operation"] (spIsOp K) := by
  refine F.ok sc_is_operation (fun vs H Q E h => ?_) (fun cdv A outer s H vs Q E hr h => ?_)
  · obtain ⟨v, rfl, _⟩ := h
    rfl
  · obtain ⟨v, rfl, hk⟩ := h
    refine ⟨_, pss_cons (ps_if (pt_not (pt_val (pe_callB call_isi (by rfl) T.b.isinstance (by decide +kernel) (pa_cons (pv 0) (pa_cons (pe_bltn (v := .ty "tuple") (by rfl) T.b.tuple (by decide +kernel) rfl) pa_nil)))))
        (pss_one (ps_ret pe_bl)) pss_nil)
      (pss_cons (ps_if (PW.pt (pw_and (pt_cmpR op_eq (pe_callB call_len (by rfl) T.b.len PySem.boot_len (pa_cons (pv 0) pa_nil)) pe_int (nomark _)) (pw_and1 (pt_cmpR op_eq (pe_ix ix_tup (pv 0) pe_int (fun _ _ => rfl)) pe_str (nomark _)))))
        (pss_one (ps_ret (pe_callR D_are_steps.ok (hr.mono (by decide)) rfl D_are_steps.at_ D_are_steps.kp pass0 (pa_cons (pe_ix ix_tup (pv 0) pe_int (fun _ _ => rfl)) pa_nil)))) pss_nil)
      (pss_one (ps_ret (pe_or (pe_cmpR (op_eqD hr.units) (pv 0) (pe_glob (v := .ref TU) rfl T.gT rfl) (nomark _)) (pe_one (pe_and (pe_cmpR op_eq (pe_callB call_len (by rfl) T.b.len PySem.boot_len (pa_cons (pv 0) pa_nil)) pe_int (nomark _)) (pe_one (pe_cmpR op_eq (pe_ix ix_tup (pv 0) pe_int (fun _ _ => rfl)) pe_str (nomark _))))))))), ?_⟩
    rcases hk with ⟨en, ho, hf, k⟩ | ⟨ho, k⟩
    · cases en with
      | turn =>
        obtain ⟨p, rfl, hp⟩ := ho
        obtain ⟨ds, hd, h1, h2⟩ := plain_turn
        refine ⟨_, rfl, _, _, _, _, true, rfl, .ty "tuple", tyx_tup hp.at_, kit_ty (by decide +kernel), true, rfl, iteF ?_⟩
        refine ⟨_, rfl, _, _, rfl, .inr ⟨_, hp.at_, rfl⟩, rfl, _, rfl, ?_⟩
        refine ifF (by decide) ?_
        refine ⟨_, rfl, .tuple ds, .tuple [.str "turn"], .tup hp.at_ (hd _ _), .tup (T.tT _) (.cons (.str _) .nil), h1, by decide +kernel, _, rfl, ?_⟩
        refine ifT h2 ?_
        exact k H (Same.refl H)
      | meet b n =>
        obtain ⟨p, rfl, hp⟩ := ho
        obtain ⟨ds, hd, h1, h2⟩ := plain_meet b n
        have q1 : (decide (V.str "meet" = V.str "run")) = false := by decide
        have q2 : (decide (V.str "meet" = V.str "meet")) = true := by decide
        refine ⟨_, rfl, _, _, _, _, true, rfl, .ty "tuple", tyx_tup hp.at_, kit_ty (by decide +kernel), true, rfl, iteF ?_⟩
        refine ⟨_, rfl, _, _, rfl, .inr ⟨_, hp.at_, rfl⟩, rfl, _, rfl, ?_⟩
        refine ifT (by simp) ⟨_, rfl, p, _, _, _, rfl, rfl, hp.at_, at_of (j := 0) rfl rfl, rfl, _, rfl, ?_⟩
        refine ifF q1 ?_
        refine ⟨_, rfl, .tuple ds, .tuple [.str "turn"], .tup hp.at_ (hd _ _), .tup (T.tT _) (.cons (.str _) .nil), h1, by decide +kernel, _, rfl, ?_⟩
        refine ifF h2 ?_
        refine ⟨_, rfl, _, _, rfl, .inr ⟨_, hp.at_, rfl⟩, rfl, _, rfl, ?_⟩
        refine ifT (by simp) ⟨_, rfl, p, _, _, _, rfl, rfl, hp.at_, at_of (j := 0) rfl rfl, rfl, ?_⟩
        rw [q2]
        exact k H (Same.refl H)
      | run ss n =>
        obtain ⟨p, tp, ws, rfl, hp, hw, hs⟩ := ho
        have q1 : (decide (V.str "run" = V.str "run")) = true := by decide
        refine ⟨_, rfl, _, _, _, _, true, rfl, .ty "tuple", tyx_tup hp.at_, kit_ty (by decide +kernel), true, rfl, iteF ?_⟩
        refine ⟨_, rfl, _, _, rfl, .inr ⟨_, hp.at_, rfl⟩, rfl, _, rfl, ?_⟩
        refine ifT (by simp) ⟨_, rfl, p, _, _, _, rfl, rfl, hp.at_, at_of (j := 0) rfl rfl, rfl, _, rfl, ?_⟩
        refine ifT q1 ?_
        exact ⟨_, rfl, p, _, _, _, rfl, rfl, hp.at_, at_of (j := 1) rfl rfl, tp, ws, rfl, .inl ⟨⟨ss, hw, hs, hf.1, hf.2⟩, k⟩⟩
    · rcases ho with rfl | ⟨z, rfl⟩ | ⟨p, xs, rfl, hp, hx⟩ | ⟨p, tp, ws, n, rfl, hp, hw⟩
      · refine ⟨_, rfl, _, _, _, _, false, rfl, .ty "tuple", .base .non, kit_ty (by decide +kernel), false, rfl, iteT ?_⟩
        exact k H (Same.refl H)
      · refine ⟨_, rfl, _, _, _, _, false, rfl, .ty "tuple", .base (.str z), kit_ty (by decide +kernel), false, rfl, iteT ?_⟩
        exact k H (Same.refl H)
      · have sq : SqT K H p xs := SqT.of hp
        have h3 : ¬ (xs.length : Int) = 3 ∧ PlainIs xs false := by
          rcases hx with rfl | rfl | rfl | ⟨n, rfl⟩
          · exact ⟨by decide, plain_nil⟩
          · exact ⟨by decide, plain_jump⟩
          · exact ⟨by decide, plain_meet2⟩
          · exact ⟨by show ¬ (2 : Int) = 3; decide, plain_turn2 n⟩
        obtain ⟨n3, ds, hd, h1, h2⟩ := h3
        have q3 : (decide (V.int (xs.length : Int) = V.int 3)) = false := decide_eq_false fun z => n3 (by injection z)
        refine ⟨_, rfl, _, _, _, _, true, rfl, .ty "tuple", tyx_tup sq, kit_ty (by decide +kernel), true, rfl, iteF ?_⟩
        refine ⟨_, rfl, _, _, rfl, .inr ⟨_, sq, rfl⟩, rfl, _, rfl, ?_⟩
        refine ifF q3 ?_
        refine ⟨_, rfl, .tuple ds, .tuple [.str "turn"], .tup sq (hd _ _), .tup (T.tT _) (.cons (.str _) .nil), h1, by decide +kernel, _, rfl, ?_⟩
        refine ifF h2 ?_
        refine ⟨_, rfl, _, _, rfl, .inr ⟨_, sq, rfl⟩, rfl, _, rfl, ?_⟩
        refine ifF q3 ?_
        exact k H (Same.refl H)
      · have sq : SqT K H p [.str "run", .ref tp, .int n] := SqT.of hp
        have q1 : (decide (V.str "run" = V.str "run")) = true := by decide
        refine ⟨_, rfl, _, _, _, _, true, rfl, .ty "tuple", tyx_tup sq, kit_ty (by decide +kernel), true, rfl, iteF ?_⟩
        refine ⟨_, rfl, _, _, rfl, .inr ⟨_, sq, rfl⟩, rfl, _, rfl, ?_⟩
        refine ifT (by simp) ⟨_, rfl, p, _, _, _, rfl, rfl, sq, at_of (j := 0) rfl rfl, rfl, _, rfl, ?_⟩
        refine ifT q1 ?_
        exact ⟨_, rfl, p, _, _, _, rfl, rfl, sq, at_of (j := 1) rfl rfl, tp, ws, rfl, .inr ⟨hw, k⟩⟩
end
end Cc

/-! Operations are judged, one after another. -/
namespace Cc
open PySem PySem.Spec PyProof.Rows L2
def FineAt (K : PySem.W.Frag) (H : Hp) (v : V) : Prop := ∃ en, OpAt K H v en ∧ formE en
theorem FineAt.same {K : PySem.W.Frag} {H H' : Hp} {v : V} (h : FineAt K H v) (k : Same H H') : FineAt K H' v := let ⟨en, a, b⟩ := h; ⟨en, a.same k, b⟩
theorem OddAt.same {K : PySem.W.Frag} {H H' : Hp} {v : V} (h : OddAt K H v) (k : Same H H') : OddAt K H' v := by
  rcases h with h | h | ⟨p, xs, e, a, b⟩ | ⟨p, tp, ws, n, e, a, b⟩
  · exact .inl h
  · exact .inr (.inl h)
  · exact .inr (.inr (.inl ⟨p, xs, e, k _ _ a, b⟩))
  · exact .inr (.inr (.inr ⟨p, tp, ws, n, e, k _ _ a, b.imp (fun ⟨x, y⟩ => ⟨x.same k, y.same k⟩) fun x => k _ _ x⟩))
def spChkOps (K : PySem.W.Frag) : Sp := fun vs H Q _ => ∃ (tp : Addr) (ws : List V), vs = [.ref tp] ∧ H tp = some (.tup ws) ∧ (∀ v ∈ ws, FineAt K H v) ∧ ∀ H', Same H H' → Q .non H'
def spChkOpsX (K : PySem.W.Frag) (CO : Addr) : Sp := fun vs H _ E => ∃ (tp : Addr) (ws : List V) (i : Nat), vs = [.ref tp] ∧ H tp = some (.tup ws) ∧ ws.length ≤ 1000 ∧ (∀ j v, j < i → ws[j]? = some v → FineAt K H v) ∧ (∃ v, ws[i]? = some v ∧ OddAt K H v) ∧
  ∀ H' d, Same H H' → H' d = none → E (.ref CO) (some d) (upd H' d (.xd [(("index" : Str), .int (i : Nat))]))
section
variable {P : Program} {w : World} {K : PySem.W.Frag} {mg : Str → Option Value} {base : Heap} {C CO TU pS gS : Addr} {mc : Value}
abbrev s_check_operations : Stmt := top 32
abbrev n_check_operations : List Str := ["operations", "index", "operation"]
theorem sc_check_operations : FnScope n_check_operations ["operations"] (defScope s_check_operations) := ⟨rfl, rfl, rfl, by decide +kernel, rfl, by decide +kernel, by decide +kernel⟩
theorem ok_check_operations {f f_is_operation : Addr} {fd : FuncData} (F : Fun K "check_operations" "check_operations" s_check_operations f fd) (T : Txt K mg C TU pS gS mc) (D_is_operation : Dn P w K mg base 6 "is_operation" f_is_operation (spIsOp K)) : FnOk P w K mg base CX0 7 f fd ["operations"] (spChkOps K) := by
  refine F.ok sc_check_operations (fun vs H Q E h => ?_) (fun cdv A outer s H vs Q E hr h => ?_)
  · obtain ⟨tp, ws, rfl, _⟩ := h
    rfl
  · obtain ⟨tp, ws, rfl, ht, hf, k⟩ := h
    refine ⟨_, pss_one (ps_for PassesOwn.never rfl (pi_enumT (by rfl) T.b.enumerate (pa_cons (pv 0) pa_nil)) (pg_tup rfl (pgs_cons (pg_name (i := 1) sc_check_operations.nd rfl (.inl rfl)) (pgs_cons (pg_name (i := 2) sc_check_operations.nd rfl (.inl rfl)) pgs_nil)))
        (pss_one (ps_if (pt_not (pt_val (pe_callR D_is_operation.ok (hr.mono (by decide)) rfl D_is_operation.at_ D_is_operation.kp pass0 (pa_cons (pv 2) pa_nil))))
          (pss_one ps_never) pss_nil))), ?_⟩
    refine ⟨_, rfl, tp, ws, rfl, SqT.of ht, ?_⟩
    refine for_it (walk_enumT (xs := ws)) (fun i σ H' => ∃ a b, σ = [some (.ref tp), a, b] ∧ Same H H') ⟨none, none, rfl, Same.refl H⟩ (fun i σ H' _ ⟨_, _, _, s1⟩ => SqT.of (s1 _ _ ht)) ?_ ?_
    · rintro i x σ H1 H2 hi ⟨a, b, rfl, s1⟩ ⟨q, y1, y2, rfl, n1, rfl, z1, z2⟩
      have s2 : Same H (upd H1 q (.tup [y1, y2])) := s1.trans (same_upd n1)
      refine ⟨q, _, rfl, SqT.of upd_same, rfl, _, _, rfl, _, _, rfl, rfl, ?_⟩
      obtain ⟨en, ho, hfe⟩ := (hf y2 (List.mem_of_getElem? z2)).same s2
      refine ⟨_, rfl, y2, rfl, .inl ⟨en, ho, hfe, fun H3 s3 => ?_⟩⟩
      refine ⟨_, rfl, iteF ?_⟩
      exact ⟨_, _, rfl, s2.trans s3⟩
    · rintro σ H1 ⟨a, b, rfl, s1⟩
      exact k H1 s1
theorem okx_check_operations {f f_is_operation fO : Addr} {fd : FuncData} (F : Fun K "check_operations" "check_operations" s_check_operations f fd) (T : Txt K mg C TU pS gS mc) (D_is_operation : Dn P w K mg base 6 "is_operation" f_is_operation (spIsOp K)) (XO : PySem.EiX.EiTxt P K mg "InvalidOperation" CO fO) : FnOk P w K mg base (L2.CX P w) 7 f fd ["operations"] (spChkOpsX K CO) := by
  refine F.okX sc_check_operations (fun vs H Q E h => ?_) (fun cdv A outer s H vs Q E hr h => ?_)
  · obtain ⟨tp, ws, i, rfl, _⟩ := h
    rfl
  · obtain ⟨tp, ws, i, rfl, ht, hl, hf, ⟨v, hv, hodd⟩, k⟩ := h
    refine ⟨_, pss_one (ps_for (passes_of rfl) rfl (pi_enumT (by rfl) T.b.enumerate (pa_cons (pv 0) pa_nil)) (pg_tup rfl (pgs_cons (pg_name (i := 1) sc_check_operations.nd rfl (.inl rfl)) (pgs_cons (pg_name (i := 2) sc_check_operations.nd rfl (.inl rfl)) pgs_nil)))
        (pss_one (ps_if (pt_not (pt_val (pe_callR D_is_operation.ok (hr.mono (by decide)) rfl D_is_operation.at_ D_is_operation.kp pass0 (pa_cons (pv 2) pa_nil))))
          (pss_one (ps_raise (W := fun cls d _ H => E cls d H) rfl (takes_of rfl rfl rfl rfl) (pmk_idx (k := 1) XO (hr.mono (by decide)) (pv 1) rfl))) pss_nil))), ?_⟩
    refine ⟨_, rfl, tp, ws, rfl, SqT.of ht, ?_⟩
    refine for_it (walk_enumT (xs := ws)) (fun j σ H' => ∃ a b, σ = [some (.ref tp), a, b] ∧ Same H H' ∧ j ≤ i) ⟨none, none, rfl, Same.refl H, Nat.zero_le _⟩ (fun i σ H' _ ⟨_, _, _, s1, _⟩ => SqT.of (s1 _ _ ht)) ?_ ?_
    · rintro j x σ H1 H2 hj ⟨a, b, rfl, s1, ji⟩ ⟨q, y1, y2, rfl, n1, rfl, z1, z2⟩
      have s2 : Same H (upd H1 q (.tup [y1, y2])) := s1.trans (same_upd n1)
      refine ⟨q, _, rfl, SqT.of upd_same, rfl, _, _, rfl, _, _, rfl, rfl, ?_⟩
      by_cases e : j = i
      · subst e
        have z2 : ws[j]? = some y2 := z2
        have z3 : y2 = v := by
          rw [hv] at z2
          exact (Option.some.inj z2).symm
        subst z3
        refine ⟨_, rfl, y2, rfl, .inr ⟨hodd.same s2, fun H3 s3 => ?_⟩⟩
        refine ⟨_, rfl, iteT ?_⟩
        have jl := (List.getElem?_eq_some_iff.mp hv).1
        exact ⟨_, rfl, j, by rw [← Option.some.inj z1], ⟨by omega, by omega⟩, fun d hd => k _ d (s2.trans s3) hd⟩
      · obtain ⟨en, ho, hfe⟩ := (hf j y2 (by omega) z2).same s2
        refine ⟨_, rfl, y2, rfl, .inl ⟨en, ho, hfe, fun H3 s3 => ?_⟩⟩
        refine ⟨_, rfl, iteF ?_⟩
        exact ⟨_, _, rfl, s2.trans s3, by omega⟩
    · rintro σ H1 ⟨a, b, rfl, s1, ji⟩
      have := (List.getElem?_eq_some_iff.mp hv).1
      omega
end
end Cc

/-! Groups of operations: all or none (the reading of apply). -/
namespace Cc
open PySem PySem.Spec PyProof.Rows L2
def spPerfA (K : PySem.W.Frag) (CH CM CE CT : Addr) : Sp := fun vs H Q E => spPerform K CH CM vs H Q E ∨ spPerformX K CH CM CE CT vs H Q E
def spChkOpsA (K : PySem.W.Frag) (CO : Addr) : Sp := fun vs H Q E => spChkOps K vs H Q E ∨ spChkOpsX K CO vs H Q E
/-- the first of which never raises -/
theorem fnr_andN {P : Program} {w : World} {K : PySem.W.Frag} {mg : Str → Option Value} {base : Heap} {k : Nat} {f : Addr} {sp sq : Sp} (F : FnR P w K mg base CX0 k f sp) (G : FnR P w K mg base (L2N.CX P w) k f sq) : FnR P w K mg base (L2N.CX P w) k f (fun vs H Q E => sp vs H Q E ∨ sq vs H Q E) := by
  intro A outer s H us vs Q E hr e0 r h
  rcases h with h | h
  · refine codeAny_mono (F A outer s H us vs Q E hr e0 r h) fun z s' hq => ?_
    cases z with
    | error e => exact (False.elim hq)
    | ok fl =>
      cases fl with
      | ret u => exact hq
      | next => exact hq
      | brk => exact hq
      | cont => exact hq
  · exact G A outer s H us vs Q E hr e0 r h
abbrev s_House_apply : Stmt := inClass (top 31) 14
abbrev n_House_apply : List Str := ["self", "operations", "present", "reverted", "operation"]
theorem sc_House_apply : FnScope n_House_apply ["self", "operations"] (defScope s_House_apply) := ⟨rfl, rfl, rfl, by decide +kernel, rfl, by decide +kernel, by decide +kernel⟩
section
variable {P : Program} {w : World} {K : PySem.W.Frag} {mg : Str → Option Value} {base : Heap} {CH CM CA CO CE CT : Addr}
theorem apply_reads {f fC fP : Addr} {cdv : Value} {A : Around} {outer : List Env} {s : Shared} {H : Hp} {E : XK} (hr : Room 8 (A.deeper (envOfC "House.apply" (defScope s_House_apply) s.heap.objs.size f cdv)))
    (DX : DnX P w K mg base 7 "check_operations" fC (spChkOpsA K CO)) (OH : HTxt K CH) (MP : Meth K CH "perform" fP) (GP : FnR P w K mg base (L2N.CX P w) 5 fP (spPerfA K CH CM CE CT)) (gCA : mg "ChairError" = some (.ref CA)) :
    ∃ t, PSs (cxOf (L2.CX P w) P w K mg base n_House_apply "House.apply" (defScope s_House_apply) f cdv A outer s H E) (defBody s_House_apply) t ∧ t = tSeq (tDrop fun σ H Q => tCons (tVar 1) tNil σ H fun vs H1 => spChkOpsA K CO vs H1 Q E) (tSeq (tPar 2 3 (tCons (tFld K (tVar 0) "present") (tCons (tFld K (tVar 0) "reverted") tNil))) (fun D σ H =>
      tRet (fun σ H Q => tLc (iTup K (tVar 1)) (gName 4) tYes (tMethR CH "perform" (spPerfA K CH CM CE CT) (fun cls d H => ∀ σ2 : L2.St, wAgain K (.ref CA) (tAsg (tTup (tCons (tVar 2) (tCons (tVar 3) tNil))) (gTup K 2 (gCons (gAtt K (tVar 0) "present") (gCons (gAtt K (tVar 0) "reverted") gNil)))) (fun cls d _ H => E cls d H) cls d σ H) (tVar 0) (tCons (tVar 4) tNil)) [4] σ H Q) D σ H)) := by
  refine ⟨_, pss_cons (ps_expr (pe_callR (Ez := E) DX.ok (hr.mono (by decide)) rfl DX.at_ DX.kp (passes_call (takes_of rfl rfl rfl rfl) fun _ _ _ _ h => h) (pa_cons (pv 1) pa_nil)))
      (pss_cons (ps_par (i := 2) (j := 3) rfl sc_House_apply.nd rfl rfl (by decide) rfl rfl (pa_cons (pe_fld (pv 0) rfl) (pa_cons (pe_fld (pv 0) rfl) pa_nil)) (by rfl))
      (pss_one (ps_try_again (X := (cxOf (L2.CX P w) P w K mg base n_House_apply "House.apply" (defScope s_House_apply) f cdv A outer s H E)) (c := .ref CA) (Wout := fun cls d _ H => E cls d H) (ts := tAsg (tTup (tCons (tVar 2) (tCons (tVar 3) tNil))) (gTup K 2 (gCons (gAtt K (tVar 0) "present") (gCons (gAtt K (tVar 0) "reverted") gNil))))
        (tb := fun W => tRet (fun σ H Q => tLc (iTup K (tVar 1)) (gName 4) tYes (tMethR CH "perform" (spPerfA K CH CM CE CT) (fun cls d H => ∀ σ2 : L2.St, W cls d σ H) (tVar 0) (tCons (tVar 4) tNil)) [4] σ H Q))
        rfl rfl rfl ⟨rfl, by decide, .inl gCA⟩ (fun hd => L2H.passesAt_of rfl hd) (takes_of rfl rfl rfl rfl)
        (fun W pn xe tkN tkP po => pss_one (ps_ret (pe_lcN (X := (cxOf (L2.CX P w) P w K mg base n_House_apply "House.apply" (defScope s_House_apply) f cdv A outer s H E).tr pn xe) (Wx := W) (own := [("operation", 4)]) (g := gName 4) (tt := tYes) (wi := iTup K (tVar 1)) (te := fun W2 _ => tMethR CH "perform" (spPerfA K CH CM CE CT) (fun cls d H => ∀ σ2 : L2.St, W2 cls d σ2 H) (tVar 0) (tCons (tVar 4) tNil)) rfl sc_House_apply.nd rfl rfl tkN (pi_tup (pv 1)) (blkOk_by (N := n_House_apply) (sc := defScope s_House_apply) (by decide +kernel))
          (fun _ _ _ _ _ => pg_name (i := 4) sc_House_apply.nd rfl (.inl rfl)) (fun _ _ _ _ _ => by exact pts_nil) (fun pz σ s1 H1 C1 cl fp xe1 _ _ tk1 => by exact (pe_methR (E := fun cls d H2 => ∀ σ2 : L2.St, W cls d σ H2) (pv 0) OH.cl MP GP (hr.mono (by decide)) (L2N.passes_call tk1 fun _ _ σ2 _ h2 => h2 σ2) (pa_cons (pv 4) pa_nil))))))
        (fun a oe pn hot => ps_asg (pe_tup (pa_cons (pv 2) (pa_cons (pv 3) pa_nil))) (pg_tupH hot (pgs_cons (pg_att (pv 0)) (pgs_cons (pg_att (pv 0)) pgs_nil))))))), rfl⟩
theorem fix_lst {H : Hp} {D : Addr} {xs ys : List V} (h : H D = some (.lst xs)) : Fix H (upd H D (.lst ys)) := by
  refine ⟨fun b zs e => ?_, fun b o zs e => ?_⟩
  · rw [upd_ne fun z => by rw [z, h] at e; cases e]
    exact e
  · rw [upd_ne fun z => by rw [z, h] at e; cases e]
    exact e
theorem OpAt.fix {H H1 : Hp} {v : V} {e : Ent} (h : OpAt K H v e) (g : Fix H H1) : OpAt K H1 v e := by
  cases e with
  | turn => exact let ⟨p, a, b⟩ := h; ⟨p, a, b.fix g⟩
  | meet b n => exact let ⟨p, a, b⟩ := h; ⟨p, a, b.fix g⟩
  | run ss n => exact let ⟨p, tp, ws, a, b, c, d⟩ := h; ⟨p, tp, ws, a, b.fix g, c.fix g, d.mono fun t xs e => g.1 t _ e⟩
theorem HouseIs.lst {H : Hp} {x m D : Addr} {c r mv : Int} {op e rv : V} {t : Bool} {xs ys : List V} (h : HouseIs CH CM H x c m op r mv t e rv) (hd : H D = some (.lst xs)) : HouseIs CH CM (upd H D (.lst ys)) x c m op r mv t e rv := by
  obtain ⟨⟨dx, a⟩, ⟨dm, b⟩⟩ := h
  exact ⟨⟨dx, by rw [upd_ne fun z => by rw [z, hd] at a; cases a]; exact a⟩, ⟨dm, by rw [upd_ne fun z => by rw [z, hd] at b; cases b]; exact b⟩⟩
/-- one operation, which can be done: the tree of apply -/
theorem apply_one {E : XK} {Q : VK} {H : Hp} {x tp m : Addr} {v : V} {c r mv : Int} {t : Bool} {op e rv : V} {en : Ent} (OH : HTxt K CH) (ht : H tp = some (.tup [v])) (hh : HouseIs CH CM H x c m op r mv t e rv) (c0 : 0 ≤ c) (c1 : c ≤ 1000000000000000000) (r0 : 0 ≤ r) (r1 : r ≤ c)
    (ho : OpAt K H v en) (hf : formE en) (hc : canE c en) (k : ∀ q m' op' H', But x H H' → OpAt K H' op' en → HouseIs CH CM H' x c m' op' (ledE c en r).1 (mv + (ledE c en r).2) (t != turnE en) (.ref m) .non → H' q = some (.lst [toldE en (ledE c en r).2]) → Q (.ref q) H') :
    (tSeq (tDrop fun σ H Q => tCons (tVar 1) tNil σ H fun vs H1 => spChkOpsA K CO vs H1 Q E) (tSeq (tPar 2 3 (tCons (tFld K (tVar 0) "present") (tCons (tFld K (tVar 0) "reverted") tNil))) (fun D σ H =>
      tRet (fun σ H Q => tLc (iTup K (tVar 1)) (gName 4) tYes (tMethR CH "perform" (spPerfA K CH CM CE CT) (fun cls d H => ∀ σ2 : L2.St, wAgain K (.ref CA) (tAsg (tTup (tCons (tVar 2) (tCons (tVar 3) tNil))) (gTup K 2 (gCons (gAtt K (tVar 0) "present") (gCons (gAtt K (tVar 0) "reverted") gNil)))) (fun cls d _ H => E cls d H) cls d σ H) (tVar 0) (tCons (tVar 4) tNil)) [4] σ H Q) D σ H))) { nx := fun _ H' => Q .non H', rt := Q } (start n_House_apply [.ref x, .ref tp]) H := by
  refine ⟨_, rfl, .inl ⟨tp, _, rfl, ht, fun u hu => ?_, fun H1 s1 => ?_⟩⟩
  · rw [List.mem_singleton.mp hu]
    exact ⟨en, ho, hf⟩
  obtain ⟨dx, h1⟩ := (hh.same s1).at_
  refine ⟨_, rfl, x, CH, dx, _, _, rfl, h1, OH.cl, OH.a2, lkS (by decide) lkZ, ?_⟩
  refine ⟨_, rfl, x, CH, dx, _, _, rfl, h1, OH.cl, OH.a3, lkS (by decide) (lkS (by decide) lkZ), ?_⟩
  refine ⟨_, _, rfl, ?_⟩
  refine ⟨_, rfl, tp, rfl, ⟨_, SqT.of (s1 _ _ ht)⟩, fun D hD => ?_⟩
  have nDx : D ≠ x := (ne_of_none h1 hD).symm
  obtain ⟨dx0, hx0⟩ := hh.at_
  have ntp : tp ≠ x := ne_of ht hx0 fun z => nomatch z
  refine lc_tup (xs := [v]) (fun i H' => (i = 0 ∧ Same H H' ∧ H' D = some (.lst [])) ∨ (i = 1 ∧ But x H H' ∧ ∃ m' op', OpAt K H' op' en ∧ HouseIs CH CM H' x c m' op' (ledE c en r).1 (mv + (ledE c en r).2) (t != turnE en) (.ref m) .non ∧ H' D = some (.lst [toldE en (ledE c en r).2])))
    (.inl ⟨rfl, s1.trans (same_upd hD), upd_same⟩) ?_ ?_ ?_
  · rintro i H' _ (⟨_, s2, _⟩ | ⟨_, b2, _⟩)
    · exact SqT.of (s2 _ _ ht)
    · exact SqT.of (b2 _ _ ntp ht)
  · rintro i u H' hu (⟨rfl, s2, hd⟩ | ⟨rfl, _⟩)
    · have hu : v = u := Option.some.inj hu
      subst hu
      obtain ⟨dx2, h2⟩ := (hh.same s2).at_
      refine ⟨rfl, ?_⟩
      unfold tYes
      simp only [if_true]
      refine ⟨_, rfl, x, dx2, _, rfl, h2, lkS (by decide) (lkS (by decide) (lkS (by decide) lkN)), _, rfl, .inl ⟨x, m, v, c, r, mv, t, op, e, rv, en, rfl, hh.same s2, ho.same s2, hc, c0, c1, r0, r1, fun m' op' H6 b6 o6 h6 => ?_⟩⟩
      have d6 : H6 D = some (.lst []) := b6 _ _ nDx hd
      refine ⟨[], d6, by show 0 < sizeLine; decide, .inr ⟨by first | trivial | rfl, fun b o n z => ?_, m', op', o6.fix (fix_lst d6), h6.lst d6, upd_same⟩⟩
      rw [upd_ne (ne_of_none (s1 _ _ z) hD)]
      exact b6 _ _ n (s2 _ _ z)
    · exact nomatch hu
  · rintro H' (⟨z, _⟩ | ⟨_, b2, m', op', o6, h6, hd⟩)
    · cases z
    · exact k D m' op' H' b2 o6 h6 hd
/-- the suite of apply brings the house back -/
theorem suite_back {σ : L2.St} {H : Hp} {x m : Addr} {c r mv : Int} {t : Bool} {op e rv p2 rv2 : V} {dx : Addr} {Qn : L2.St → Hp → Prop} (OH : HTxt K CH) (OM : MTxt K CM) (e0 : σ[0]? = some (some (.ref x))) (e2 : σ[2]? = some (some (.ref m))) (e3 : σ[3]? = some (some rv))
    (hx : H x = some (.ins CH dx (houL c p2 rv2))) (mo : MomAt CM H m op r mv t e) (k : ∀ H', But x H H' → HouseIs CH CM H' x c m op r mv t e rv → Qn σ H') :
    (tAsg (tTup (tCons (tVar 2) (tCons (tVar 3) tNil))) (gTup K 2 (gCons (gAtt K (tVar 0) "present") (gCons (gAtt K (tVar 0) "reverted") gNil)))) (goesOn Qn) σ H := by
  obtain ⟨dm, hm⟩ := mo
  have nmx : m ≠ x := ins_ne hm hx (by simp)
  refine ⟨_, e2, _, e3, by show 2 ≤ sizeLine; decide, fun tq htq => ?_⟩
  have s1 := same_upd (H := H) (o := .tup [.ref m, rv]) htq
  have g1 := upd_same (H := H) (a := tq) (o := .tup [.ref m, rv])
  generalize upd H tq (.tup [.ref m, rv]) = H1 at *
  refine ⟨tq, _, rfl, SqT.of g1, rfl, _, _, rfl, ?_⟩
  refine ⟨_, e0, x, CH, dx, _, rfl, s1 _ _ hx, OH.cl, OH.a2, by show 3 < 1000; decide, ?_⟩
  rw [putF_skip (by decide), putF_hit]
  refine ⟨_, _, rfl, _, e0, x, CH, dx, _, rfl, upd_same, OH.cl, OH.a3, by show 3 < 1000; decide, ?_⟩
  rw [putF_skip (by decide), putF_skip (by decide), putF_hit]
  refine ⟨rfl, ?_⟩
  refine k _ (fun b o z q => ?_) ⟨⟨dx, upd_same⟩, ⟨dm, ?_⟩⟩
  · rw [upd_ne z, upd_ne z]
    exact s1 _ _ q
  · rw [upd_ne nmx, upd_ne nmx]
    exact s1 _ _ hm
theorem fix_but {H H' : Hp} {x dx : Addr} {fs : List (Str × V)} (b : But x H H') (h : H x = some (.ins CH dx fs)) : Fix H H' :=
  ⟨fun a xs e => b _ _ (fun z => by rw [z, h] at e; cases e) e, fun a o xs e => b _ _ (fun z => by rw [z, h] at e; cases e) e⟩
/-- two operations, the second of which the house refuses: all is as before -/
theorem apply_bad {E : XK} {Q : VK} {H : Hp} {x tp m : Addr} {v v2 : V} {c r mv : Int} {t : Bool} {op e rv : V} {en en2 : Ent} (OH : HTxt K CH) (OM : MTxt K CM) (xCE : PySem.W.exmOne K (.ref CE) (.ref CA) = some true) (xCT : PySem.W.exmOne K (.ref CT) (.ref CA) = some true)
    (ht : H tp = some (.tup [v, v2])) (hh : HouseIs CH CM H x c m op r mv t e rv) (c0 : 0 ≤ c) (c1 : c ≤ 1000000000000000000) (r0 : 0 ≤ r) (r1 : r ≤ c)
    (ho : OpAt K H v en) (hf : formE en) (hc : canE c en) (ho2 : OpAt K H v2 en2) (hf2 : formE en2)
    (hk : (∃ b n, en2 = .meet b n ∧ 0 ≤ n ∧ n ≤ 1000000000000000000 ∧ c < n ∧ ∀ H', But x H H' → HouseIs CH CM H' x c m op r mv t e rv → E (.ref CE) none H') ∨
      (∃ ss n, en2 = .run ss n ∧ (∃ s ∈ ss, bigS c s) ∧ ∀ i H' d, FewAt c ss i → But x H H' → HouseIs CH CM H' x c m op r mv t e rv → H' d = some (.xd [(("index" : Str), .int (i : Nat))]) → E (.ref CT) (some d) H')) :
    (tSeq (tDrop fun σ H Q => tCons (tVar 1) tNil σ H fun vs H1 => spChkOpsA K CO vs H1 Q E) (tSeq (tPar 2 3 (tCons (tFld K (tVar 0) "present") (tCons (tFld K (tVar 0) "reverted") tNil))) (fun D σ H =>
      tRet (fun σ H Q => tLc (iTup K (tVar 1)) (gName 4) tYes (tMethR CH "perform" (spPerfA K CH CM CE CT) (fun cls d H => ∀ σ2 : L2.St, wAgain K (.ref CA) (tAsg (tTup (tCons (tVar 2) (tCons (tVar 3) tNil))) (gTup K 2 (gCons (gAtt K (tVar 0) "present") (gCons (gAtt K (tVar 0) "reverted") gNil)))) (fun cls d _ H => E cls d H) cls d σ H) (tVar 0) (tCons (tVar 4) tNil)) [4] σ H Q) D σ H))) { nx := fun _ H' => Q .non H', rt := Q } (start n_House_apply [.ref x, .ref tp]) H := by
  obtain ⟨dx0, hx0⟩ := hh.at_
  have ntp : tp ≠ x := ne_of ht hx0 fun z => nomatch z
  refine ⟨_, rfl, .inl ⟨tp, _, rfl, ht, fun u hu => ?_, fun H1 s1 => ?_⟩⟩
  · rcases (List.mem_cons.mp hu) with rfl | hu
    · exact ⟨en, ho, hf⟩
    · rw [List.mem_singleton.mp hu]
      exact ⟨en2, ho2, hf2⟩
  obtain ⟨dx, h1⟩ := (hh.same s1).at_
  refine ⟨_, rfl, x, CH, dx, _, _, rfl, h1, OH.cl, OH.a2, lkS (by decide) lkZ, ?_⟩
  refine ⟨_, rfl, x, CH, dx, _, _, rfl, h1, OH.cl, OH.a3, lkS (by decide) (lkS (by decide) lkZ), ?_⟩
  refine ⟨_, _, rfl, ?_⟩
  refine ⟨_, rfl, tp, rfl, ⟨_, SqT.of (s1 _ _ ht)⟩, fun D hD => ?_⟩
  have nDx : D ≠ x := (ne_of_none h1 hD).symm
  refine lc_tup (xs := [v, v2]) (fun i H' => (i = 0 ∧ Same H H' ∧ H' D = some (.lst [])) ∨ (i = 1 ∧ But x H H' ∧ ∃ m' op' r' mv' t' l, HouseIs CH CM H' x c m' op' r' mv' t' (.ref m) .non ∧ H' D = some (.lst l)))
    (.inl ⟨rfl, s1.trans (same_upd hD), upd_same⟩) ?_ ?_ ?_
  · rintro i H' _ (⟨_, s2, _⟩ | ⟨_, b2, _⟩)
    · exact SqT.of (s2 _ _ ht)
    · exact SqT.of (b2 _ _ ntp ht)
  · rintro i u H' hu (⟨rfl, s2, hd⟩ | ⟨rfl, b2, m', op', r', mv', t', l, h6, hd⟩)
    · have hu : v = u := Option.some.inj hu
      subst hu
      obtain ⟨dx2, h2⟩ := (hh.same s2).at_
      refine ⟨rfl, ?_⟩
      unfold tYes
      simp only [if_true]
      refine ⟨_, rfl, x, dx2, _, rfl, h2, lkS (by decide) (lkS (by decide) (lkS (by decide) lkN)), _, rfl, .inl ⟨x, m, v, c, r, mv, t, op, e, rv, en, rfl, hh.same s2, ho.same s2, hc, c0, c1, r0, r1, fun m' op' H6 b6 o6 h6 => ?_⟩⟩
      have d6 : H6 D = some (.lst []) := b6 _ _ nDx hd
      refine ⟨[], d6, by show 0 < sizeLine; decide, .inr ⟨by first | trivial | rfl, fun b o n z => ?_, m', op', _, _, _, _, h6.lst d6, upd_same⟩⟩
      rw [upd_ne (ne_of_none (s1 _ _ z) hD)]
      exact b6 _ _ n (s2 _ _ z)
    · have hu : v2 = u := Option.some.inj hu
      subst hu
      obtain ⟨dx2, h2⟩ := h6.at_
      obtain ⟨dm, hm⟩ := hh.mo
      have nmx : m ≠ x := ins_ne hm hx0 (by simp)
      refine ⟨rfl, ?_⟩
      unfold tYes
      simp only [if_true]
      refine ⟨_, rfl, x, dx2, _, rfl, h2, lkS (by decide) (lkS (by decide) (lkS (by decide) lkN)), _, rfl, .inr ⟨x, m', v2, c, r', mv', t', op', .ref m, .non, en2, rfl, h6, ho2.fix (fix_but b2 hx0), c0, c1, ?_⟩⟩
      rcases hk with ⟨b, n, rfl, n0, n1, cn, kE⟩ | ⟨ss, n, rfl, hbig, kE⟩
      · refine .inl ⟨b, n, rfl, n0, n1, cn, fun H7 s7 σ2 => ⟨true, xCE, fun _ => ?_, fun z => nomatch z⟩⟩
        have b7 : But x H H7 := b2.trans (But.of s7)
        exact suite_back OH OM rfl rfl rfl (s7 _ _ h2) ⟨dm, b7 _ _ nmx hm⟩ fun H8 b8 h8 => kE H8 (b7.trans b8) h8
      · refine .inr ⟨ss, n, rfl, hf2.1, hf2.2, hbig, fun i H7 d fa s7 hd7 σ2 => ⟨true, xCT, fun _ => ?_, fun z => nomatch z⟩⟩
        have s8 := s7.trans (same_upd (o := .xd [(("index" : Str), .int (i : Nat))]) hd7)
        have g8 := upd_same (H := H7) (a := d) (o := .xd [(("index" : Str), .int (i : Nat))])
        generalize upd H7 d (.xd [(("index" : Str), .int (i : Nat))]) = H8 at *
        have b8 : But x H H8 := b2.trans (But.of s8)
        have ndx : d ≠ x := fun z => by
          have y := s8 _ _ h2
          rw [← z, g8] at y; cases y
        exact suite_back OH OM rfl rfl rfl (s8 _ _ h2) ⟨dm, b8 _ _ nmx hm⟩ fun H9 b9 h9 => kE i H9 d fa (b8.trans b9) h9 (b9 _ _ ndx g8)
  · rintro H' (⟨z, _⟩ | ⟨z, _⟩)
    · cases z
    · cases z
end
end Cc

/-! apply, told whole. -/
namespace Cc
open PySem PySem.Spec PyProof.Rows L2
/-- what becomes of a group of operations ws, asked of the house x -/
def GroupK (K : PySem.W.Frag) (CH CM CE CT CO : Addr) (x m : Addr) (c r mv : Int) (t : Bool) (op e rv : V) (ws : List V) (H : Hp) (Q : VK) (E : XK) : Prop :=
  (ws = [] ∧ ∀ q H', Same H H' → H' q = some (.lst []) → Q (.ref q) H') ∨
  (∃ v en, ws = [v] ∧ OpAt K H v en ∧ formE en ∧ canE c en ∧ ∀ q m' op' H', But x H H' → OpAt K H' op' en → HouseIs CH CM H' x c m' op' (ledE c en r).1 (mv + (ledE c en r).2) (t != turnE en) (.ref m) .non → H' q = some (.lst [toldE en (ledE c en r).2]) → Q (.ref q) H') ∨
  (∃ v v2 en en2, ws = [v, v2] ∧ OpAt K H v en ∧ formE en ∧ canE c en ∧ OpAt K H v2 en2 ∧ formE en2 ∧
    ((∃ b n, en2 = .meet b n ∧ 0 ≤ n ∧ n ≤ 1000000000000000000 ∧ c < n ∧ ∀ H', But x H H' → HouseIs CH CM H' x c m op r mv t e rv → E (.ref CE) none H') ∨
      (∃ ss n, en2 = .run ss n ∧ (∃ s ∈ ss, bigS c s) ∧ ∀ i H' d, FewAt c ss i → But x H H' → HouseIs CH CM H' x c m op r mv t e rv → H' d = some (.xd [(("index" : Str), .int (i : Nat))]) → E (.ref CT) (some d) H'))) ∨
  (ws.length ≤ 1000 ∧ ∃ i, (∀ j v, j < i → ws[j]? = some v → FineAt K H v) ∧ (∃ v, ws[i]? = some v ∧ OddAt K H v) ∧ ∀ H' d, Same H H' → H' d = none → E (.ref CO) (some d) (upd H' d (.xd [(("index" : Str), .int (i : Nat))])))
def spApplyT (K : PySem.W.Frag) (CH CM CE CT CO : Addr) : Sp := fun vs H Q E => ∃ (x tp m : Addr) (c r mv : Int) (t : Bool) (op e rv : V) (ws : List V), vs = [.ref x, .ref tp] ∧ H tp = some (.tup ws) ∧ HouseIs CH CM H x c m op r mv t e rv ∧ 0 ≤ c ∧ c ≤ 1000000000000000000 ∧ 0 ≤ r ∧ r ≤ c ∧
  GroupK K CH CM CE CT CO x m c r mv t op e rv ws H Q E
section
variable {P : Program} {w : World} {K : PySem.W.Frag} {mg : Str → Option Value} {base : Heap} {CH CM CA CO CE CT : Addr}
theorem apply_none {E : XK} {Q : VK} {H : Hp} {x tp m : Addr} {c r mv : Int} {t : Bool} {op e rv : V} (OH : HTxt K CH) (ht : H tp = some (.tup [])) (hh : HouseIs CH CM H x c m op r mv t e rv) (k : ∀ q H', Same H H' → H' q = some (.lst []) → Q (.ref q) H') :
    (tSeq (tDrop fun σ H Q => tCons (tVar 1) tNil σ H fun vs H1 => spChkOpsA K CO vs H1 Q E) (tSeq (tPar 2 3 (tCons (tFld K (tVar 0) "present") (tCons (tFld K (tVar 0) "reverted") tNil))) (fun D σ H =>
      tRet (fun σ H Q => tLc (iTup K (tVar 1)) (gName 4) tYes (tMethR CH "perform" (spPerfA K CH CM CE CT) (fun cls d H => ∀ σ2 : L2.St, wAgain K (.ref CA) (tAsg (tTup (tCons (tVar 2) (tCons (tVar 3) tNil))) (gTup K 2 (gCons (gAtt K (tVar 0) "present") (gCons (gAtt K (tVar 0) "reverted") gNil)))) (fun cls d _ H => E cls d H) cls d σ H) (tVar 0) (tCons (tVar 4) tNil)) [4] σ H Q) D σ H))) { nx := fun _ H' => Q .non H', rt := Q } (start n_House_apply [.ref x, .ref tp]) H := by
  refine ⟨_, rfl, .inl ⟨tp, _, rfl, ht, fun u hu => (nomatch hu), fun H1 s1 => ?_⟩⟩
  obtain ⟨dx, h1⟩ := (hh.same s1).at_
  refine ⟨_, rfl, x, CH, dx, _, _, rfl, h1, OH.cl, OH.a2, lkS (by decide) lkZ, ?_⟩
  refine ⟨_, rfl, x, CH, dx, _, _, rfl, h1, OH.cl, OH.a3, lkS (by decide) (lkS (by decide) lkZ), ?_⟩
  refine ⟨_, _, rfl, ?_⟩
  refine ⟨_, rfl, tp, rfl, ⟨_, SqT.of (s1 _ _ ht)⟩, fun D hD => ?_⟩
  refine lc_tup (xs := []) (fun i H' => Same H H' ∧ H' D = some (.lst [])) ⟨s1.trans (same_upd hD), upd_same⟩ (fun i H' _ ⟨s2, _⟩ => SqT.of (s2 _ _ ht)) (fun i u H' hu _ => (nomatch hu)) fun H' ⟨s2, hd⟩ => k D H' s2 hd
theorem apply_odd {E : XK} {Q : VK} {H : Hp} {x tp : Addr} {ws : List V} {i : Nat} (ht : H tp = some (.tup ws)) (hl : ws.length ≤ 1000) (hf : ∀ j v, j < i → ws[j]? = some v → FineAt K H v) (ho : ∃ v, ws[i]? = some v ∧ OddAt K H v)
    (k : ∀ H' d, Same H H' → H' d = none → E (.ref CO) (some d) (upd H' d (.xd [(("index" : Str), .int (i : Nat))]))) :
    (tSeq (tDrop fun σ H Q => tCons (tVar 1) tNil σ H fun vs H1 => spChkOpsA K CO vs H1 Q E) (tSeq (tPar 2 3 (tCons (tFld K (tVar 0) "present") (tCons (tFld K (tVar 0) "reverted") tNil))) (fun D σ H =>
      tRet (fun σ H Q => tLc (iTup K (tVar 1)) (gName 4) tYes (tMethR CH "perform" (spPerfA K CH CM CE CT) (fun cls d H => ∀ σ2 : L2.St, wAgain K (.ref CA) (tAsg (tTup (tCons (tVar 2) (tCons (tVar 3) tNil))) (gTup K 2 (gCons (gAtt K (tVar 0) "present") (gCons (gAtt K (tVar 0) "reverted") gNil)))) (fun cls d _ H => E cls d H) cls d σ H) (tVar 0) (tCons (tVar 4) tNil)) [4] σ H Q) D σ H))) { nx := fun _ H' => Q .non H', rt := Q } (start n_House_apply [.ref x, .ref tp]) H := ⟨_, rfl, .inr ⟨tp, ws, i, rfl, ht, hl, hf, ho, k⟩⟩
theorem ok_applyT {f fC fP : Addr} {fd : FuncData} (F : Fun K "apply" "House.apply" s_House_apply f fd) (DX : DnX P w K mg base 7 "check_operations" fC (spChkOpsA K CO)) (OH : HTxt K CH) (OM : MTxt K CM) (MP : Meth K CH "perform" fP) (GP : FnR P w K mg base (L2N.CX P w) 5 fP (spPerfA K CH CM CE CT))
    (gCA : mg "ChairError" = some (.ref CA)) (xCE : PySem.W.exmOne K (.ref CE) (.ref CA) = some true) (xCT : PySem.W.exmOne K (.ref CT) (.ref CA) = some true) :
    FnR P w K mg base (L2.CX P w) 9 f (fun vs H Q E => ∃ ws rest, vs = ws ++ rest ∧ ws.length = 1 ∧ rest.length ≤ sizeLine ∧ ∀ p, H p = Option.none → spApplyT K CH CM CE CT CO (ws ++ [V.ref p]) (upd H p (.tup rest)) Q E) := by
  obtain ⟨z1, z2, z3, z4, z5, z6, cdv, z7, z8, rfl, lk, hcd⟩ := F.ex
  refine StX.fn_star (ps := ["self"]) (pv := "operations") (sp := spApplyT K CH CM CE CT CO) (k := 8) lk hcd sc_House_apply StX.cxUp (StX.bind_star1 (B := fun us => bindArgs _ ⟨us, []⟩) (fun _ => rfl) (fun _ _ _ => rfl)) fun A outer s H vs Q E hr h => ?_
  obtain ⟨t0, r1, r2⟩ := apply_reads (P := P) (w := w) (base := base) (E := E) (s := s) (H := H) (outer := outer) (cdv := cdv) (CE := CE) (CT := CT) (CA := CA) hr DX OH MP GP gCA
  refine ⟨t0, r1, ?_⟩
  rw [r2]
  obtain ⟨x, tp, m, c, r, mv, t, op, e, rv, ws, rfl, ht, hh, c0, c1, r0, r1, hk⟩ := h
  rcases hk with ⟨rfl, k⟩ | ⟨v, en, rfl, ho, hf, hc, k⟩ | ⟨v, v2, en, en2, rfl, ho, hf, hc, ho2, hf2, k⟩ | ⟨hl, i, hf, ho, k⟩
  · exact apply_none OH ht hh k
  · exact apply_one OH ht hh c0 c1 r0 r1 ho hf hc k
  · exact apply_bad OH OM xCE xCT ht hh c0 c1 r0 r1 ho hf hc ho2 hf2 k
  · exact apply_odd ht hl hf ho k
end
end Cc

/-! x(e, .., k = v), x a local that holds a class. -/
namespace Cc
open PySem PySem.Spec PyProof.Rows L2
section
variable {X : Cx} {CX : CXT} {k n : Nat} {f C : Addr} {fd : FuncData} {ps ks : List Str} {sp : Sp} {E : XK} {x : Str} {p pos : Pos} {e : Expr} {es : List Expr} {kws : List Keyword} {t tk : TA} {tx : TE} {g : List Value → List Value → List Value} {gV : List V → List V → List V}
def tMakeKL (tx : TE) (C : Addr) (n m : Nat) (sp : Sp) (gV : List V → List V → List V) (E : XK) (t tk : TA) : TE := fun σ H Q => tx σ H fun y H1 => y = .ref C ∧ tMakeK C n m sp gV E t tk σ H1 Q
theorem pe_makeKL (hv : PE X (.Name x p) tx) (M : Mk X.K C f) (F : FnOk X.prog X.w X.K X.mg X.base CX k f fd ps sp) (hr : Room (k + 1) X.A) (hb : KBn X.K fd ps (n + 1) ks g gV) (hx : Passes CX X E) (ha : PA X (e :: es) t) (hkw : PK X kws tk)
    (hall : (backToKw pos (keywordEach kws X.env)).all (·.1.isSome) = true := by rfl) (hks : (backToKw pos (keywordEach kws X.env)).filterMap (·.1) = ks := by rfl)
    (he : starEach (e :: es) X.env = (false, eval e X.env) :: starEach es X.env := by rfl) (hpl : ((backTo pos (starEach (e :: es) X.env)).any (·.1) || (backToKw pos (keywordEach kws X.env)).any (·.1.isNone)) = false := by rfl) : PE X (.Call (.Name x p) (e :: es) kws pos) (tMakeKL tx C n ks.length sp gV E t tk) := by
  refine ⟨fun pins s σ H Q I h => ?_⟩
  refine wpAny_Call_Name_kw (thn (hv.run pins s σ H _ I h) fun u s0 ⟨y, H0, I0, r0, ey, q0⟩ => ?_)
  subst ey
  obtain rfl : u = Value.ref C := r0
  refine PySem.W.callWith_KW (h₀ := X.base) I0.ok.mod.kin M.kp hall (thn (ha.run pos pins s0 σ H0 _ I0 q0) fun us s1 ⟨vs, H1, I1, r, q⟩ => ?_) hpl he
  refine thn (hkw.run pos pins s1 σ H1 _ I1 q) fun ws s2 ⟨zs, H2, I2, rz, l1, l2, q2⟩ => ⟨I2.kIn, ?_⟩; rw [hks]; exact run_makeK M F hr hb hx I2 r rz l1 l2 q2
end
end Cc

/-! A house after operations, made at once. -/
namespace Cc
open PySem PySem.Spec PyProof.Rows L2
abbrev s_House_replay : Stmt := inClass (top 31) 16
abbrev n_House_replay : List Str := ["cls", "chairs", "red", "operations", "house"]
theorem sc_House_replay : FnScope n_House_replay ["cls", "chairs", "red", "operations"] (defScope s_House_replay) := ⟨rfl, rfl, rfl, by decide +kernel, rfl, by decide +kernel, by decide +kernel⟩
/-- what a group asks of a FnR of a varargs method -/
abbrev spApply (K : PySem.W.Frag) (CH CM CE CT CO : Addr) : Sp := fun vs H Q E => ∃ ws rest, vs = ws ++ rest ∧ ws.length = 1 ∧ rest.length ≤ sizeLine ∧ ∀ p, H p = Option.none → spApplyT K CH CM CE CT CO (ws ++ [V.ref p]) (upd H p (.tup rest)) Q E
/-- none, or one that can be done -/
def spReplayT (K : PySem.W.Frag) (CH CM : Addr) : Sp := fun vs H Q _ => ∃ (tp : Addr) (c r : Int) (ws : List V), vs = [.ref CH, .int c, .int r, .ref tp] ∧ H tp = some (.tup ws) ∧ 0 ≤ c ∧ c ≤ 1000000000000000000 ∧ 0 ≤ r ∧ r ≤ c ∧
  ((ws = [] ∧ ∀ x m H', H x = none → Same H H' → HouseIs CH CM H' x c m .non r 0 false .non .non → Q (.ref x) H') ∨
   (∃ v en, ws = [v] ∧ OpAt K H v en ∧ formE en ∧ canE c en ∧ ∀ x m m' op' H', H x = none → Same H H' → MomAt CM H' m .non r 0 false .non → OpAt K H' op' en → HouseIs CH CM H' x c m' op' (ledE c en r).1 (0 + (ledE c en r).2) (false != turnE en) (.ref m) .non → Q (.ref x) H'))
theorem bind_star3 {B : List Value → Sem (List (Str × Value))} {p1 p2 p3 pv : Str} (h0 : ∀ a b c, B [a, b, c] = (newTuple [] >>= fun t => pure [(p1, a), (p2, b), (p3, c), (pv, t)])) (h1 : ∀ a b c r rs, B (a :: b :: c :: r :: rs) = (newTuple (r :: rs) >>= fun t => pure [(p1, a), (p2, b), (p3, c), (pv, t)])) :
    ∀ us rest : List Value, us.length = [p1, p2, p3].length → B (us ++ rest) = (newTuple rest >>= fun t => pure ([p1, p2, p3].zip us ++ [(pv, t)]))
  | [a, b, c], [], _ => h0 a b c
  | [a, b, c], r :: rs, _ => h1 a b c r rs
section
variable {P : Program} {w : World} {K : PySem.W.Frag} {mg : Str → Option Value} {base : Heap} {CH CM CO CE CT : Addr}
theorem ok_replayT {f fA fHI : Addr} {fd fdN : FuncData} (F : Fun K "replay" "House.replay" s_House_replay f fd) (OH : HTxt K CH) (MH : Mk K CH fHI) (GHI : FnOk P w K mg base CX0 3 fHI fdN ["self", "chairs", "red"] (spHouInit CH CM)) (hbH : KBn K fdN ["self", "chairs", "red"] 2 ["red"] (fun us ws => us ++ ws) (fun vs zs => vs ++ zs))
    (BA : BMeth K CH "apply" fA) (GA : FnR P w K mg base (L2.CX P w) 9 fA (spApply K CH CM CE CT CO)) :
    FnR P w K mg base CX0 11 f (fun vs H Q E => ∃ ws rest, vs = ws ++ rest ∧ ws.length = 3 ∧ rest.length ≤ sizeLine ∧ ∀ p, H p = Option.none → spReplayT K CH CM (ws ++ [V.ref p]) (upd H p (.tup rest)) Q E) := by
  obtain ⟨z1, z2, z3, z4, z5, z6, cdv, z7, z8, rfl, lk, hcd⟩ := F.ex
  refine StX.fn_star (ps := ["cls", "chairs", "red"]) (pv := "operations") (sp := spReplayT K CH CM) (k := 10) lk hcd sc_House_replay StX.cxUp_none (bind_star3 (B := fun us => bindArgs _ ⟨us, []⟩) (fun _ _ _ => rfl) (fun _ _ _ _ _ => rfl)) fun A outer s H vs Q E hr h => ?_
  · suffices h : ∃ t, PSs (cxOf CX0 P w K mg base n_House_replay "House.replay" (defScope s_House_replay) f cdv A outer s H E).nox (defBody s_House_replay) t ∧ t { nx := fun _ H' => Q .non H', rt := Q } (start n_House_replay vs) H by
      obtain ⟨t, h1, h2⟩ := h
      exact ⟨t, h1.nox, h2⟩
    obtain ⟨tp, c, r, ws, rfl, ht, c0, c1, r0, r1, hk⟩ := h
    refine ⟨_, pss_cons (ps_set (i := 4) sc_House_replay.nd rfl (.inl rfl) (pe_makeKL (pv 0) MH GHI (hr.mono (by decide)) hbH pass0 (pa_cons (pv 1) pa_nil) (pk_cons (pv 2) pk_nil)))
      (pss_cons (ps_expr (pe_methS1 (E := E0) (pv 4) OH.cl BA GA (hr.mono (by decide)) passL (pv 3)))
      (pss_one (ps_ret (pv 4)))), ?_⟩
    have lw : ws.length ≤ sizeLine := by
      rcases hk with ⟨rfl, _⟩ | ⟨v, en, rfl, _⟩
      · exact Nat.zero_le _
      · show 1 ≤ sizeLine
        decide
    refine ⟨_, rfl, rfl, _, rfl, _, rfl, rfl, rfl, fun x dx hx hdx ne => ⟨x, dx, c, r, rfl, upd_same, c0, c1, r0, r1, fun m H9 b9 h9 => ⟨rfl, ?_⟩⟩⟩
    have s9 : Same H H9 := fun b o z => b9 _ _ (ne_of_none z hx) (by rw [upd_ne (ne_of_none z hx), upd_ne (ne_of_none z hdx)]; exact z)
    obtain ⟨d9, e9⟩ := h9.at_
    refine ⟨_, rfl, x, d9, _, rfl, e9, lkS (by decide) (lkS (by decide) (lkS (by decide) lkN)), fun q hq => ?_⟩
    have s10 := s9.trans (same_upd (o := .met fA x) hq)
    have t10 := same_upd (H := H9) (o := .met fA x) hq
    have g10 := upd_same (H := H9) (a := q) (o := .met fA x)
    have h10 := h9.same t10
    generalize upd H9 q (.met fA x) = H10 at *
    refine ⟨_, rfl, tp, ws, rfl, .inl (SqT.of (s10 _ _ ht)), g10, [.ref x], ws, rfl, rfl, lw, fun p hp => ?_⟩
    have s11 := s10.trans (same_upd (o := .tup ws) hp)
    have t11 := same_upd (H := H10) (o := .tup ws) hp
    refine ⟨x, p, m, c, r, 0, false, .non, .non, .non, ws, rfl, upd_same, h10.same t11, c0, c1, r0, r1, ?_⟩
    rcases hk with ⟨rfl, k⟩ | ⟨v, en, rfl, ho, hf, hc, k⟩
    · exact .inl ⟨rfl, fun q2 H12 s12 _ => ⟨_, rfl, k x m H12 hx (s11.trans s12) ((h10.same t11).same s12)⟩⟩
    · refine .inr (.inl ⟨v, en, rfl, ho.same s11, hf, hc, fun q2 m' op' H12 b12 o12 h12 _ => ?_⟩)
      have hm := (h10.same t11).mo
      obtain ⟨dm, hm⟩ := hm
      obtain ⟨dz, hz⟩ := (h10.same t11).at_
      exact ⟨_, rfl, k x m m' op' H12 hx (fun b o z => b12 _ _ (ne_of_none z hx) (s11 _ _ z)) ⟨dm, b12 _ _ (ins_ne hm hz (by simp)) hm⟩ o12 h12⟩
end
end Cc

/-! What a house tells, as the law asks for it. -/
namespace Cc
open PySem PySem.Spec PyProof.Rows L2
theorem ChainO.sameT {CM : Addr} {H H1 : Hp} {v : V} {as : List Addr} {ps : List (V × Int)} (h : ChainO CM H v as ps) (s : Same H H1) : ChainO CM H1 v as ps :=
  ⟨h.1.same s, Paired.mapP h.2 fun _ _ ⟨mv, t, e, dx, a⟩ => ⟨mv, t, e, dx, s _ _ a⟩⟩
/-- six tellings -/
def spTold (CH CM : Addr) : Sp := fun vs H Q _ => ∃ (x m : Addr) (c r mv : Int) (t : Bool) (op e rv : V) (as : List Addr) (ps : List (V × Int)), vs = [.ref x] ∧ HouseIs CH CM H x c m op r mv t e rv ∧ ChainO CM H (.ref m) as ps ∧ as.length ≤ 900 ∧
  ∀ l q g H', Same H H' → H q = none → H g = none → H l = none → H' q = some (.lst ((ps.reverse.drop 1).map (·.1))) → H' g = some (.lst (ps.reverse.map fun z => V.int z.2)) → H' l = some (.lst [.int r, .int (c - r), .int mv, .bl t, .ref q, .ref g]) → Q (.ref l) H'
section
variable {P : Program} {w : World} {K : PySem.W.Frag} {mg : Str → Option Value} {base : Heap} {C CH CM TU pS gS : Addr} {fdR fdB fdV fdU fdH fdC : FuncData} {mc : Value}
abbrev s__law_told : Stmt := top 43
abbrev n__law_told : List Str := ["_law_house"]
theorem sc__law_told : FnScope n__law_told ["_law_house"] (defScope s__law_told) := ⟨rfl, rfl, rfl, by decide +kernel, rfl, by decide +kernel, by decide +kernel⟩
theorem ok__law_told {f pR gR pB gB pV gV pU gU pH gH fRC : Addr} {fd : FuncData} (F : Fun K "_law_told" "_law_told" s__law_told f fd) (B : Bt mg) (OH : HTxt K CH) (PR : PropOf K CH "red" pR gR) (ORd : FnOk P w K mg base CX0 1 gR fdR ["self"] (spRedP CH CM)) (bR : Binds K fdR ["self"] []) (PB : PropOf K CH "blue" pB gB) (OBl : FnOk P w K mg base CX0 1 gB fdB ["self"] (spBlueP CH CM)) (bB : Binds K fdB ["self"] []) (PV : PropOf K CH "total_moved" pV gV) (OMv : FnOk P w K mg base CX0 1 gV fdV ["self"] (spMovedP CH CM)) (bV : Binds K fdV ["self"] []) (PU : PropOf K CH "is_turned" pU gU) (OTd : FnOk P w K mg base CX0 1 gU fdU ["self"] (spTurnedP CH CM)) (bU : Binds K fdU ["self"] []) (PH : PropOf K CH "history" pH gH) (OHi : FnOk P w K mg base CX0 2 gH fdH ["self"] (spHistO CH CM)) (bH : Binds K fdH ["self"] []) (MRC : Meth K CH "red_counts" fRC) (GRC : GFn P w K mg base 2 fRC fdC ["self"] (spCounts CH CM)) (bRC : Binds K fdC ["self"] []) : FnOk P w K mg base CX0 6 f fd ["_law_house"] (spTold CH CM) := by
  refine F.ok sc__law_told (fun vs H Q E h => ?_) (fun cdv A outer s H vs Q E hr h => ?_)
  · obtain ⟨x, m, c, r, mv, t, op, e, rv, as, ps, rfl, _⟩ := h
    rfl
  · obtain ⟨x, m, c, r, mv, t, op, e, rv, as, ps, rfl, hh, hc, hl, k⟩ := h
    refine ⟨_, pss_one (ps_ret (pe_lst (pa_cons (pe_prop (pv 0) OH.cl PR ORd (hr.mono (by decide)) bR .nil pass0 rfl) (pa_cons (pe_prop (pv 0) OH.cl PB OBl (hr.mono (by decide)) bB .nil pass0 rfl) (pa_cons (pe_prop (pv 0) OH.cl PV OMv (hr.mono (by decide)) bV .nil pass0 rfl) (pa_cons (pe_prop (pv 0) OH.cl PU OTd (hr.mono (by decide)) bU .nil pass0 rfl) (pa_cons (pe_prop (pv 0) OH.cl PH OHi (hr.mono (by decide)) bH .nil pass0 rfl) (pa_cons (pe_listG (k := 2) (E := E0) (pgen_meth0 (pv 0) OH.cl MRC GRC (hr.mono (by decide)) bRC .nil) passL (fun _ _ _ h => h.elim) (hr.mono (by decide)) (by rfl) B.list rfl) pa_nil)))))))), ?_⟩
    obtain ⟨dx, h1⟩ := hh.at_
    refine ⟨_, rfl, x, dx, _, rfl, h1, x, m, c, r, mv, t, op, e, rv, rfl, hh, ?_⟩
    refine ⟨_, rfl, x, dx, _, rfl, h1, x, m, c, r, mv, t, op, e, rv, rfl, hh, ?_⟩
    refine ⟨_, rfl, x, dx, _, rfl, h1, x, m, c, r, mv, t, op, e, rv, rfl, hh, ?_⟩
    refine ⟨_, rfl, x, dx, _, rfl, h1, x, m, c, r, mv, t, op, e, rv, rfl, hh, ?_⟩
    refine ⟨_, rfl, x, dx, _, rfl, h1, x, m, c, r, mv, t, op, e, rv, as, ps, rfl, hh, hc, hl, fun q H1 s1 e1 nq => ?_⟩
    refine ⟨_, rfl, x, dx, _, rfl, s1 _ _ h1, lkS (by decide) (lkS (by decide) (lkS (by decide) lkN)), x, m, c, r, mv, t, op, e, rv, as, ps, rfl, hh.same s1, hc.sameT s1, hl, fun H2 s2 g hg => ?_⟩
    have s3 := same_upd (o := .lst (ps.reverse.map fun z => V.int z.2)) hg
    have g3 := upd_same (H := H2) (a := g) (o := .lst (ps.reverse.map fun z => V.int z.2))
    generalize upd H2 g (.lst (ps.reverse.map fun z => V.int z.2)) = H3 at *
    refine ⟨by show 6 ≤ sizeLine; decide, fun l hl2 => ?_⟩
    have s4 := same_upd (o := .lst [.int r, .int (c - r), .int mv, .bl t, .ref q, .ref g]) hl2
    exact k l q g _ (((s1.trans s2).trans s3).trans s4) nq (same_none (s1.trans s2) hg) (same_none ((s1.trans s2).trans s3) hl2) (s4 _ _ (s3 _ _ (s2 _ _ e1))) (s4 _ _ g3) upd_same
end
end Cc

/-! An operation is drawn. -/
namespace Cc
open PySem PySem.Spec PyProof.Rows L2
def spDeed4 (K : PySem.W.Frag) : Sp := fun vs H Q _ => ∃ (h l : Addr) (c : Int), vs = [.ref h, .int c] ∧ NextAt H h l ∧ 0 ≤ c ∧ c ≤ 1000000000000000000 ∧
  ∀ v en H', NextAt H' h l → But2 h l H H' → OpAt K H' v en → canE c en → formE en → Q v H'
theorem nextS {H H1 : Hp} {h l : Addr} (n : NextAt H h l) (s : Same H H1) : NextAt H1 h l := let ⟨m, k, ns, a, b, c, d⟩ := n; ⟨m, k, ns, s _ _ a, s _ _ b, c, d⟩
section
variable {P : Program} {w : World} {K : PySem.W.Frag} {mg : Str → Option Value} {base : Heap} {mc : Value}
abbrev s__law_deed : Stmt := top 44
abbrev n__law_deed : List Str := ["_law_h", "_law_chairs", "_law_kind"]
theorem sc__law_deed : FnScope n__law_deed ["_law_h", "_law_chairs"] (defScope s__law_deed) := ⟨rfl, rfl, rfl, by decide +kernel, rfl, by decide +kernel, by decide +kernel⟩
theorem ok__law_deed {f f__law_next f__law_steps : Addr} {fd : FuncData} (F : Fun K "_law_deed" "_law_deed" s__law_deed f fd) (T : Txt K mg C TU pS gS mc) (D__law_next : Dn P w K mg base 1 "_law_next" f__law_next spNext) (D__law_steps : Dn P w K mg base 2 "_law_steps" f__law_steps spSteps2) : FnOk P w K mg base CX0 8 f fd ["_law_h", "_law_chairs"] (spDeed4 K) := by
  refine F.ok sc__law_deed (fun vs H Q E h => ?_) (fun cdv A outer s H vs Q E hr h => ?_)
  · obtain ⟨h, l, c, rfl, _⟩ := h
    rfl
  · obtain ⟨h, l, c, rfl, hn, c0, c1, k⟩ := h
    refine ⟨_, pss_cons (ps_set (i := 2) sc__law_deed.nd rfl (.inl rfl) (pe_callR D__law_next.ok (hr.mono (by decide)) rfl D__law_next.at_ D__law_next.kp pass0 (pa_cons (pv 0) (pa_cons pe_int pa_nil))))
      (pss_cons (ps_if (pt_cmpR op_eq (pv 2) pe_int (nomark _))
        (pss_one (ps_ret (pe_tup (pa_cons pe_str pa_nil)))) pss_nil)
      (pss_cons (ps_if (pt_cmpR op_eq (pv 2) pe_int (nomark _))
        (pss_one (ps_ret (pe_tup (pa_cons pe_str (pa_cons (pe_callTy call_tuple_of (by rfl) T.b.tuple (by decide +kernel) (pa_cons (pe_callR D__law_steps.ok (hr.mono (by decide)) rfl D__law_steps.at_ D__law_steps.kp pass0 (pa_cons (pv 0) (pa_cons (pv 1) (pa_cons pe_int pa_nil)))) pa_nil)) (pa_cons (pe_callR D__law_next.ok (hr.mono (by decide)) rfl D__law_next.at_ D__law_next.kp pass0 (pa_cons (pv 0) (pa_cons (pe_ix ix_list (pe_lst (pa_cons pe_int (pa_cons (pe_op op_pow pe_int pe_int) pa_nil))) (pe_callR D__law_next.ok (hr.mono (by decide)) rfl D__law_next.at_ D__law_next.kp pass0 (pa_cons (pv 0) (pa_cons pe_int pa_nil))) (fun _ _ => rfl)) pa_nil))) pa_nil)))))) pss_nil)
      (pss_one (ps_ret (pe_tup (pa_cons pe_str (pa_cons (pe_ix ix_list (pe_lst (pa_cons pe_str (pa_cons pe_str pa_nil))) (pe_op op_sub (pv 2) pe_int) (fun _ _ => rfl)) (pa_cons (pe_callR D__law_next.ok (hr.mono (by decide)) rfl D__law_next.at_ D__law_next.kp pass0 (pa_cons (pv 0) (pa_cons (pe_op op_add (pv 1) pe_int) pa_nil))) pa_nil)))))))), ?_⟩
    refine ⟨_, rfl, h, l, 4, rfl, hn, by decide, by decide, fun kd H1 k0 k4 n1 b1 => ?_⟩
    refine ⟨_, rfl, rfl, _, rfl, ?_⟩
    by_cases e0 : kd = 0
    · subst e0
      refine ifT (by decide) ?_
      refine ⟨by show 1 ≤ sizeLine; decide, fun p hp => ?_⟩
      have s2 := same_upd (H := H1) (o := .tup [.str "turn"]) hp
      exact k (.ref p) .turn _ (nextS n1 s2) (b1.trans (But2.of s2)) ⟨p, rfl, TupK.of upd_same⟩ trivial trivial
    refine ifF (decide_eq_false fun z => e0 (by injection z)) ?_
    refine ⟨_, rfl, rfl, _, rfl, ?_⟩
    by_cases e1 : kd = 1
    · subst e1
      refine ifT (by decide) ?_
      refine ⟨_, rfl, _, rfl, h, l, c, 4, rfl, n1, c0, c1, by decide, by decide, fun rl ws ss H2 f2 e2 st2 l2 ok2 n2 b2 => ?_⟩
      refine ⟨rl, ws, rfl, .inl ⟨SqL.of e2, fun tp htp => ?_⟩⟩
      have s3 := same_upd (H := H2) (o := .tup ws) htp
      have g3 := upd_same (H := H2) (a := tp) (o := .tup ws)
      have n3 := nextS n2 s3
      generalize upd H2 tp (.tup ws) = H3 at *
      refine ⟨_, rfl, 10, 18, rfl, rfl, ⟨by decide, by decide, by decide⟩, by show 2 ≤ sizeLine; decide, fun q hq => ?_⟩
      have s4 := same_upd (H := H3) (o := .lst [.int 5, .int (10 ^ (18 : Int).toNat)]) hq
      have g4 := upd_same (H := H3) (a := q) (o := .lst [.int 5, .int (10 ^ (18 : Int).toNat)])
      have n4 := nextS n3 s4
      generalize upd H3 q (.lst [.int 5, .int (10 ^ (18 : Int).toNat)]) = H4 at *
      refine ⟨_, rfl, h, l, 2, rfl, n4, by decide, by decide, fun i H5 i0 i2 n5 b5 => ?_⟩
      obtain ⟨xh, eh⟩ := n4.h1
      obtain ⟨xl, el⟩ := n4.l1
      obtain ⟨yh, fh⟩ := n5.h1
      obtain ⟨yl, fl⟩ := n5.l1
      obtain ⟨zh, zeh⟩ := n3.h1
      obtain ⟨zl, zel⟩ := n3.l1
      have g5 := b5 _ _ (ne_of_none zeh hq).symm (ne_of_none zel hq).symm g4
      obtain ⟨lim, hv, l0, l1⟩ : ∃ lim, atI [V.int 5, .int (10 ^ (18 : Int).toNat)] i = some (.int lim) ∧ 0 < lim ∧ lim ≤ 1000000000000000000 := by
        by_cases e : i = 0
        · exact ⟨5, by rw [e]; rfl, by decide, by decide⟩
        · have e : i = 1 := by omega
          exact ⟨10 ^ (18 : Int).toNat, by rw [e]; rfl, by decide, by decide⟩
      refine ⟨q, _, i, _, rfl, rfl, SqL.of g5, hv, ?_⟩
      refine ⟨h, l, lim, rfl, n5, l0, by omega, fun nd H6 d0 d1 n6 b6 => ?_⟩
      refine ⟨by show 3 ≤ sizeLine; decide, fun p hp => ?_⟩
      have s7 := same_upd (H := H6) (o := .tup [.str "run", .ref tp, .int nd]) hp
      have kp : ∀ a xs, H4 a = some (.tup xs) → upd H6 p (.tup [.str "run", .ref tp, .int nd]) a = some (.tup xs) := fun a xs e => by
        have e5 := b5 _ _ (fun z => by rw [z, eh] at e; cases e) (fun z => by rw [z, el] at e; cases e) e
        exact s7 _ _ (b6 _ _ (fun z => by rw [z, fh] at e5; cases e5) (fun z => by rw [z, fl] at e5; cases e5) e5)
      exact k (.ref p) (.run ss nd) _ (nextS n6 s7) (((((b1.trans b2).trans (But2.of (s3.trans s4))).trans b5).trans b6).trans (But2.of s7)) ⟨p, tp, ws, rfl, TupK.of upd_same, TupK.of (kp _ _ (s4 _ _ g3)), (st2.same (s3.trans s4)).mono fun a xs e => kp _ _ e⟩ ⟨by omega, ok2, d0, by omega⟩ ⟨by omega, fun s z => (ok2 s z).mono c1⟩
    refine ifF (decide_eq_false fun z => e1 (by injection z)) ?_
    obtain ⟨bb, hb⟩ : ∃ bb : Bool, (kd - 2 = 0 ∧ bb = true) ∨ (kd - 2 = 1 ∧ bb = false) := by
      by_cases e2 : kd = 2
      · exact ⟨true, .inl ⟨by omega, rfl⟩⟩
      · exact ⟨false, .inr ⟨by omega, rfl⟩⟩
    refine ⟨by show 2 ≤ sizeLine; decide, fun q hq => ?_⟩
    have s2 := same_upd (H := H1) (o := .lst [.str "red", .str "blue"]) hq
    have g2 := upd_same (H := H1) (a := q) (o := .lst [.str "red", .str "blue"])
    generalize upd H1 q (.lst [.str "red", .str "blue"]) = H2 at *
    refine ⟨_, rfl, _, _, rfl, rfl, ?_⟩
    have hv : atI [V.str "red", .str "blue"] (kd - 2) = some (.str (roomS bb)) := by
      rcases hb with ⟨e, rfl⟩ | ⟨e, rfl⟩ <;> rw [e] <;> rfl
    refine ⟨q, _, kd - 2, _, rfl, rfl, SqL.of g2, hv, ?_⟩
    refine ⟨_, rfl, _, rfl, _, _, rfl, rfl, h, l, c + 1, rfl, nextS n1 s2, by omega, by omega, fun nd H3 d0 d1 n3 b3 => ?_⟩
    refine ⟨by show 3 ≤ sizeLine; decide, fun p hp => ?_⟩
    have s4 := same_upd (H := H3) (o := .tup [.str "meet", .str (roomS bb), .int nd]) hp
    exact k (.ref p) (.meet bb nd) _ (nextS n3 s4) (((b1.trans (But2.of s2)).trans b3).trans (But2.of s4)) ⟨p, rfl, TupK.of upd_same⟩ ⟨d0, by omega⟩ trivial
end
end Cc

/-! Entries as data; what an entry does to a house. -/
namespace Cc
open PySem PySem.Spec PyProof.Rows L2
def entD : Ent → PyData
  | .turn => .tuple [.str "turn"]
  | .meet b n => .tuple [.str "meet", .str (roomS b), .int n]
  | .run ss n => .tuple [.str "run", .tuple (ss.map stpD), .int n]
theorem stpT_dp {K : PySem.W.Frag} {H : Hp} : ∀ {vs : List V} {ss : List Stp}, Paired (StepT K H) vs ss → DpAll K H vs (ss.map stpD)
  | _, _, .nil => .nil
  | _, s :: ss, .cons ⟨t, e, h⟩ r => by
    subst e
    refine .cons ?_ (stpT_dp r)
    cases s with
    | turn => exact .tup h.at_ (.cons (.str _) .nil)
    | meet b n => exact .tup h.at_ (.cons (.str _) (.cons (.int _) .nil))
theorem entAt_dp {K : PySem.W.Frag} {H : Hp} {v : V} {e : Ent} (a : EntAt K H v e) : Dp K H v (entD e) := by
  cases e with
  | turn => exact let ⟨_, e, h⟩ := a; e ▸ .tup h.at_ (.cons (.str _) .nil)
  | meet b n => exact let ⟨_, e, h⟩ := a; e ▸ .tup h.at_ (.cons (.str _) (.cons (.str _) (.cons (.int _) .nil)))
  | run ss n =>
    obtain ⟨p, tp, ws, e, h1, h2, h3⟩ := a
    subst e
    exact .tup h1.at_ (.cons (.str _) (.cons (.tup h2.at_ (stpT_dp h3)) (.cons (.int _) .nil)))
theorem entD_turn (e : Ent) : PyData.eqv (entD e) (.tuple [.str "turn"]) = (match e with | .turn => true | _ => false) := by
  cases e with
  | turn => exact eqv_turn
  | meet b n => cases b <;> simp [entD, PyData.eqv, PyData.eqvAll]
  | run ss n => simp [entD, PyData.eqv, PyData.eqvAll]
theorem entD_shaped (e : Ent) : SeqAt.shaped (entD e) = true := by
  cases e with
  | turn => decide +kernel
  | meet b n =>
    have h1 : PyData.strOk (roomS b) = true := by cases b <;> decide +kernel
    have h2 : PyData.strOk "meet" = true := by decide +kernel
    simp [entD, SeqAt.shaped, PyData.canLay0, PyData.canLayAll0, PyData.depth, PyData.depthAll, h1, h2]
  | run ss n =>
    obtain ⟨a, b, _⟩ := stpD_lay ss
    have h2 : PyData.strOk "run" = true := by decide +kernel
    simp [entD, SeqAt.shaped, PyData.canLay0, PyData.canLayAll0, PyData.depth, PyData.depthAll, h2, a]
    omega
/-- the steps of an entry, and how often -/
def entSs : Ent → List Stp
  | .turn => [.turn]
  | .meet b n => [.meet b n]
  | .run ss _ => ss
def entN : Ent → Int
  | .run _ n => n
  | _ => 1
/-- what its performing gives back -/
def entV (e : Ent) (k : Int) : V := match e with
  | .turn => .non
  | _ => .int k
end Cc

/-! Houses with all their moments, what they tell. -/
namespace Cc
open PySem PySem.Spec PyProof.Rows L2
open LamX
theorem tabs_but2 {T : List (Addr × Str)} {h l : Addr} {H H' : Hp} (t : Tabs T H) (b : But2 h l H H') (n : NextAt H h l) : Tabs T H' := fun p hp => by
  obtain ⟨xs, hx⟩ := n.h1
  obtain ⟨ys, hy⟩ := n.l1
  obtain ⟨ps, h1, h2, h3⟩ := t p hp
  refine ⟨ps, b _ _ (ne_of h1 hx fun z => nomatch z) (ne_of h1 hy fun z => nomatch z) h1, h2, fun pos cv hc => ?_⟩
  obtain ⟨c0, e1, e2⟩ := h3 pos cv hc
  exact ⟨c0, e1, b _ _ (ne_of e2 hx fun z => by unfold CodeO at z; cases z) (ne_of e2 hy fun z => by unfold CodeO at z; cases z) e2⟩
theorem tabs_butH {T : List (Addr × Str)} {CH x : Addr} {H H' : Hp} (t : Tabs T H) (b : But x H H') (hx : ∃ dx c p rv, H x = some (.ins CH dx (houL c p rv))) : Tabs T H' := fun p hp => by
  obtain ⟨_, _, _, _, hx⟩ := hx
  obtain ⟨ps, h1, h2, h3⟩ := t p hp
  refine ⟨ps, b _ _ (ne_of h1 hx fun z => nomatch z) h1, h2, fun pos cv hc => ?_⟩
  obtain ⟨c0, e1, e2⟩ := h3 pos cv hc
  exact ⟨c0, e1, b _ _ (ne_of e2 hx fun z => by unfold CodeO at z; cases z) e2⟩
theorem NextAt.butH {CH x h l : Addr} {H H' : Hp} (n : NextAt H h l) (b : But x H H') (hx : ∃ dx c p rv, H x = some (.ins CH dx (houL c p rv))) : NextAt H' h l :=
  let ⟨m, k, ns, a1, a2, c, d⟩ := n
  let ⟨_, _, _, _, e⟩ := hx
  ⟨m, k, ns, b _ _ (ne_of a1 e fun z => nomatch z) a1, b _ _ (ne_of a2 e fun z => nomatch z) a2, c, d⟩
theorem HouseIs.hx {CH CM x m : Addr} {H : Hp} {c r mv : Int} {op e rv : V} {t : Bool} (g : HouseIs CH CM H x c m op r mv t e rv) : ∃ dx c p rv, H x = some (.ins CH dx (houL c p rv)) := let ⟨⟨dx, a⟩, _⟩ := g; ⟨dx, _, _, _, a⟩
theorem NextAt.ext {h l : Addr} {H H' : Hp} (n : NextAt H h l) (s : ExtN H H') : NextAt H' h l :=
  let ⟨m, k, ns, a1, a2, c, d⟩ := n
  ⟨m, k, ns, s _ _ a1 (fun _ z => by cases z), s _ _ a2 (fun _ z => by cases z), c, d⟩
/-- all is kept but two lists, a house and the tables -/
def ButX (h l x : Addr) (H H' : Hp) : Prop := ∀ b o, b ≠ h → b ≠ l → b ≠ x → H b = some o → (∀ ps, o ≠ .tbl ps) → H' b = some o
theorem ButX.trans {h l x : Addr} {H H1 H2 : Hp} (a : ButX h l x H H1) (b : ButX h l x H1 H2) : ButX h l x H H2 := fun c o n1 n2 n3 e t => b c o n1 n2 n3 (a c o n1 n2 n3 e t) t
theorem ButX.of {h l x : Addr} {H H' : Hp} (s : Same H H') : ButX h l x H H' := fun b o _ _ _ e _ => s b o e
theorem ButX.of2 {h l x : Addr} {H H' : Hp} (s : But2 h l H H') : ButX h l x H H' := fun b o n1 n2 _ e _ => s b o n1 n2 e
theorem ButX.of1 {h l x : Addr} {H H' : Hp} (s : But x H H') : ButX h l x H H' := fun b o _ _ n e _ => s b o n e
theorem ButX.ext {h l x : Addr} {H H' : Hp} (s : ExtN H H') : ButX h l x H H' := fun b o _ _ _ e t => s b o e t
theorem ButX.fix {CH h l x : Addr} {H H' : Hp} (s : ButX h l x H H') (n : NextAt H h l) (hx : ∃ dx c p rv, H x = some (.ins CH dx (houL c p rv))) : Fix H H' := by
  obtain ⟨xs, e1⟩ := n.h1
  obtain ⟨ys, e2⟩ := n.l1
  obtain ⟨_, _, _, _, e3⟩ := hx
  exact ⟨fun b us e => s b _ (ne_of e e1 fun z => nomatch z) (ne_of e e2 fun z => nomatch z) (ne_of e e3 fun z => nomatch z) e (fun _ z => nomatch z),
    fun b o u e => s b _ (ne_of e e1 fun z => nomatch z) (ne_of e e2 fun z => nomatch z) (ne_of e e3 fun z => nomatch z) e (fun _ z => nomatch z)⟩
def MKeep (CM : Addr) (H H1 : Hp) : Prop := ∀ a dx op rd mv tu e, H a = some (.ins CM dx (momL op rd mv tu e)) → H1 a = some (.ins CM dx (momL op rd mv tu e))
theorem MKeep.butX {CM CH h l x : Addr} {H H1 : Hp} (b : ButX h l x H H1) (N : NextAt H h l) (hx : ∃ dx c p rv, H x = some (.ins CH dx (houL c p rv))) : MKeep CM H H1 := fun a dx op rd mv tu e z => by
  obtain ⟨xs, e1⟩ := N.h1
  obtain ⟨ys, e2⟩ := N.l1
  obtain ⟨_, _, _, _, q⟩ := hx
  exact b _ _ (ne_of z e1 fun z => nomatch z) (ne_of z e2 fun z => nomatch z) (ins_ne z q (by simp)) z (fun _ z => nomatch z)
theorem few_uniq {c : Int} {ss : List Stp} {i j : Nat} (a : FewAt c ss i) (b : FewAt c ss j) : i = j := by
  have key : ∀ {i j : Nat}, FewAt c ss i → FewAt c ss j → ¬ i < j := fun {i j} a b h => by
    obtain ⟨_, bb, n, hst, hc⟩ := a
    exact b.1 (.meet bb n) (List.mem_of_getElem? (i := i) (by rw [List.getElem?_take_of_lt h]; exact hst)) hc
  have h1 := key a b
  have h2 := key b a
  omega
theorem TupK.ofX {K : PySem.W.Frag} {h l x : Addr} {H H' : Hp} {p : Addr} {xs : List V} (t : TupK K H p xs) (f : Fix H H') : TupK K H' p xs := t.fix f
theorem fix_updL {H : Hp} {a : Addr} {ys zs : List V} (e : H a = some (.lst ys)) : Fix H (upd H a (.lst zs)) :=
  ⟨fun b us z => by rw [upd_ne (ne_of z e fun z => nomatch z)]; exact z, fun b o u z => by rw [upd_ne (ne_of z e fun z => nomatch z)]; exact z⟩
theorem mkeep_updL {CM : Addr} {H : Hp} {a : Addr} {ys zs : List V} (e : H a = some (.lst ys)) : MKeep CM H (upd H a (.lst zs)) := fun b dx op rd mv tu w z => by
  rw [upd_ne (ne_of z e fun z => nomatch z)]
  exact z
theorem NextAt.updL {h l a : Addr} {H : Hp} {zs : List V} (g : NextAt H h l) (n1 : a ≠ h) (n2 : a ≠ l) : NextAt (upd H a (.lst zs)) h l :=
  let ⟨m, k, ns, a1, a2, c, d⟩ := g
  ⟨m, k, ns, by rw [upd_ne n1.symm]; exact a1, by rw [upd_ne n2.symm]; exact a2, c, d⟩
theorem Tabs.updL {T : List (Addr × Str)} {H : Hp} {a : Addr} {ys zs : List V} (t : Tabs T H) (e : H a = some (.lst ys)) : Tabs T (upd H a (.lst zs)) := tabs_but t but_upd ⟨_, e⟩
theorem MKeep.of {CM : Addr} {H H1 : Hp} (s : Same H H1) : MKeep CM H H1 := fun a dx op rd mv tu e z => s _ _ z
theorem MKeep.but {CM CH x : Addr} {H H1 : Hp} (b : But x H H1) (hx : ∃ dx c p rv, H x = some (.ins CH dx (houL c p rv))) : MKeep CM H H1 := fun a dx op rd mv tu e z => by
  obtain ⟨_, _, _, _, q⟩ := hx
  exact b _ _ (ins_ne z q (by simp)) z
theorem Fix.but {CH x : Addr} {H H1 : Hp} (b : But x H H1) (hx : ∃ dx c p rv, H x = some (.ins CH dx (houL c p rv))) : Fix H H1 := by
  obtain ⟨_, _, _, _, q⟩ := hx
  exact fix_but b q
/-! ### moments -/
structure Mo where
  a : Addr
  op : V
  en : Ent
abbrev ens (L : List Mo) : List Ent := L.map (·.en)
/-- where operations lead, the last of them first -/
def posE (c s : Int) : List Ent → Int × Int × Bool
  | [] => (s, 0, false)
  | e :: r => ((ledE c e (posE c s r).1).1, (posE c s r).2.1 + (ledE c e (posE c s r).1).2, (posE c s r).2.2 != turnE e)
def cntE (c s : Int) : List Ent → List Int
  | [] => [s]
  | e :: r => cntE c s r ++ [(posE c s (e :: r)).1]
theorem cntE_len (c s : Int) : ∀ es : List Ent, (cntE c s es).length = es.length + 1
  | [] => rfl
  | e :: r => by
    show (cntE c s r ++ [(posE c s (e :: r)).1]).length = _
    rw [List.length_append, cntE_len c s r]
    rfl
theorem ledE_in {c r : Int} {e : Ent} (h : canE c e) (r0 : 0 ≤ r) (r1 : r ≤ c) : 0 ≤ (ledE c e r).1 ∧ (ledE c e r).1 ≤ c := by
  cases e with
  | turn => show 0 ≤ c - r ∧ c - r ≤ c; omega
  | meet b n => exact let ⟨a, b, _⟩ := stepF_in (s := .meet b n) h r0 r1; ⟨a, b⟩
  | run ss n => exact let ⟨a, b, _⟩ := roundsF_in h.2.1 (n := n.toNat) (t := 0) r0 r1 (Int.le_refl 0); ⟨a, b⟩
theorem posE_in {c s : Int} (s0 : 0 ≤ s) (s1 : s ≤ c) : ∀ {es : List Ent}, (∀ e ∈ es, canE c e) → 0 ≤ (posE c s es).1 ∧ (posE c s es).1 ≤ c
  | [], _ => ⟨s0, s1⟩
  | e :: r, h => by
    obtain ⟨a, b⟩ := posE_in s0 s1 (es := r) fun z hz => h z (List.mem_cons_of_mem _ hz)
    exact ledE_in (h e List.mem_cons_self) a b
section
variable (K : PySem.W.Frag) (CH CM : Addr)
/-- the moments behind v, the last of them first -/
def MCh (H : Hp) (c s : Int) (a0 : Addr) : List Mo → V → Prop
  | [], v => v = .ref a0 ∧ MomAt CM H a0 .non s 0 false .non
  | z :: r, v => v = .ref z.a ∧ OpAt K H z.op z.en ∧ ∃ e, MomAt CM H z.a z.op (posE c s (ens (z :: r))).1 (posE c s (ens (z :: r))).2.1 (posE c s (ens (z :: r))).2.2 e ∧ MCh H c s a0 r e
/-- what has been reverted, the next to be taken up first -/
def RCh (H : Hp) (c s : Int) : List Mo → List Mo → V → V → Prop
  | [], _, _, rv => rv = .non
  | z :: R, L, p, rv => ∃ tq rv2, rv = .ref tq ∧ H tq = some (.tup [.ref z.a, rv2]) ∧ OpAt K H z.op z.en ∧ MomAt CM H z.a z.op (posE c s (ens (z :: L))).1 (posE c s (ens (z :: L))).2.1 (posE c s (ens (z :: L))).2.2 p ∧ RCh H c s R (z :: L) (.ref z.a) rv2
def HouL (H : Hp) (c s : Int) (x a0 : Addr) (L R : List Mo) : Prop := ∃ m rv, (∃ dx, H x = some (.ins CH dx (houL c (.ref m) rv))) ∧ MCh K CM H c s a0 L (.ref m) ∧ RCh K CM H c s R L (.ref m) rv
end
section
variable {K : PySem.W.Frag} {CH CM : Addr}
theorem MCh.keep {H H1 : Hp} {c s : Int} {a0 : Addr} (k : MKeep CM H H1) (f : Fix H H1) : ∀ {L : List Mo} {v : V}, MCh K CM H c s a0 L v → MCh K CM H1 c s a0 L v
  | [], _, ⟨e, dx, h⟩ => ⟨e, dx, k _ _ _ _ _ _ _ h⟩
  | _ :: _, _, ⟨e, o, w, ⟨dx, h⟩, r⟩ => ⟨e, o.fix f, w, ⟨dx, k _ _ _ _ _ _ _ h⟩, MCh.keep k f r⟩
theorem RCh.keep {H H1 : Hp} {c s : Int} (k : MKeep CM H H1) (f : Fix H H1) : ∀ {R L : List Mo} {p v : V}, RCh K CM H c s R L p v → RCh K CM H1 c s R L p v
  | [], _, _, _, h => h
  | _ :: _, _, _, _, ⟨tq, rv2, e, h, o, ⟨dx, m⟩, r⟩ => ⟨tq, rv2, e, f.1 _ _ h, o.fix f, ⟨dx, k _ _ _ _ _ _ _ m⟩, RCh.keep k f r⟩
theorem HouL.keep {H H1 : Hp} {c s : Int} {x a0 : Addr} {L R : List Mo} (h : HouL K CH CM H c s x a0 L R) (k : MKeep CM H H1) (f : Fix H H1) (hx : ∀ o, H x = some o → (∃ dx c p rv, o = .ins CH dx (houL c p rv)) → H1 x = some o) : HouL K CH CM H1 c s x a0 L R :=
  let ⟨m, rv, ⟨dx, e⟩, a, b⟩ := h
  ⟨m, rv, ⟨dx, hx _ e ⟨_, _, _, _, rfl⟩⟩, a.keep k f, b.keep k f⟩
theorem HouL.hx {H : Hp} {c s : Int} {x a0 : Addr} {L R : List Mo} (h : HouL K CH CM H c s x a0 L R) : ∃ dx c p rv, H x = some (.ins CH dx (houL c p rv)) := let ⟨_, _, ⟨dx, e⟩, _⟩ := h; ⟨dx, _, _, _, e⟩
theorem HouL.same {H H1 : Hp} {c s : Int} {x a0 : Addr} {L R : List Mo} (h : HouL K CH CM H c s x a0 L R) (k : Same H H1) : HouL K CH CM H1 c s x a0 L R := h.keep (.of k) (.of k) fun _ e _ => k _ _ e
/-- all that is changed is two lists, another house, tables -/
theorem HouL.butX {H H1 : Hp} {c s : Int} {x y a0 h l : Addr} {L R : List Mo} (g : HouL K CH CM H c s x a0 L R) (b : ButX h l y H H1) (n : NextAt H h l) (hy : ∃ dx c p rv, H y = some (.ins CH dx (houL c p rv))) (ne : x ≠ y) : HouL K CH CM H1 c s x a0 L R :=
  g.keep (.butX b n hy) (b.fix n hy) fun o e ⟨_, _, _, _, w⟩ => by
    subst w
    obtain ⟨xs, e1⟩ := n.h1
    obtain ⟨ys, e2⟩ := n.l1
    exact b _ _ (ne_of e e1 fun z => nomatch z) (ne_of e e2 fun z => nomatch z) ne e (fun _ z => nomatch z)
theorem HouL.but2 {H H1 : Hp} {c s : Int} {x a0 h l : Addr} {L R : List Mo} (g : HouL K CH CM H c s x a0 L R) (b : But2 h l H H1) (n : NextAt H h l) : HouL K CH CM H1 c s x a0 L R :=
  have hx := g.hx
  g.keep (.butX (.of2 b) n hx) ((ButX.of2 b).fix n hx) fun o e ⟨_, _, _, _, w⟩ => by
    subst w
    obtain ⟨xs, e1⟩ := n.h1
    obtain ⟨ys, e2⟩ := n.l1
    exact b _ _ (ne_of e e1 fun z => nomatch z) (ne_of e e2 fun z => nomatch z) e
theorem HouL.ext {H H1 : Hp} {c s : Int} {x a0 : Addr} {L R : List Mo} (g : HouL K CH CM H c s x a0 L R) (b : ExtN H H1) : HouL K CH CM H1 c s x a0 L R :=
  g.keep (fun a dx op rd mv tu e z => b _ _ z fun _ z => by cases z) ⟨fun a us e => b _ _ e (fun _ z => by cases z), fun a o u e => b _ _ e (fun _ z => by cases z)⟩ fun o e ⟨_, _, _, _, w⟩ => b _ _ e fun _ z => by rw [w] at z; cases z
/-- a house told as before -/
theorem HouL.is {H : Hp} {c s : Int} {x a0 : Addr} {L R : List Mo} (h : HouL K CH CM H c s x a0 L R) : ∃ m op e rv, HouseIs CH CM H x c m op (posE c s (ens L)).1 (posE c s (ens L)).2.1 (posE c s (ens L)).2.2 e rv ∧ MCh K CM H c s a0 L (.ref m) ∧ RCh K CM H c s R L (.ref m) rv ∧ (L = [] → e = .non) ∧ (∀ z r, L = z :: r → z.a = m ∧ z.op = op ∧ OpAt K H op z.en ∧ MCh K CM H c s a0 r e) := by
  obtain ⟨m, rv, hx, hm, hr⟩ := h
  cases L with
  | nil =>
    obtain ⟨e, h2⟩ := hm
    injection e with e
    subst e
    exact ⟨m, .non, .non, rv, ⟨hx, h2⟩, ⟨rfl, h2⟩, hr, fun _ => rfl, fun _ _ z => nomatch z⟩
  | cons z r =>
    obtain ⟨e, ho, w, h2, h3⟩ := hm
    injection e with e
    subst e
    exact ⟨z.a, z.op, w, rv, ⟨hx, h2⟩, ⟨rfl, ho, w, h2, h3⟩, hr, (fun y => nomatch y), fun z' r' y => by
      injection y with y1 y2
      subst y1 y2
      exact ⟨rfl, rfl, ho, h3⟩⟩
def psE (c s : Int) : List Mo → List (V × Int)
  | [] => [(.non, s)]
  | z :: r => (z.op, (posE c s (ens (z :: r))).1) :: psE c s r
theorem psE_ne (c s : Int) : ∀ L : List Mo, ∃ q r, psE c s L = q :: r
  | [] => ⟨_, _, rfl⟩
  | _ :: _ => ⟨_, _, rfl⟩
theorem psE_cnt (c s : Int) : ∀ L : List Mo, ((psE c s L).reverse.map fun z => V.int z.2) = (cntE c s (ens L)).map V.int
  | [] => rfl
  | z :: r => by
    show (((z.op, (posE c s (ens (z :: r))).1) :: psE c s r).reverse.map fun z => V.int z.2) = (cntE c s (ens r) ++ [(posE c s (ens (z :: r))).1]).map V.int
    rw [List.reverse_cons, List.map_append, List.map_append, psE_cnt c s r]
    rfl
theorem drop1_app {α : Type} : ∀ {a b : List α}, a ≠ [] → (a ++ b).drop 1 = a.drop 1 ++ b
  | [], _, h => absurd rfl h
  | _ :: _, _, _ => rfl
theorem psE_ops (c s : Int) : ∀ L : List Mo, ((psE c s L).reverse.drop 1).map (·.1) = (L.map (·.op)).reverse
  | [] => rfl
  | z :: r => by
    show (((z.op, (posE c s (ens (z :: r))).1) :: psE c s r).reverse.drop 1).map (·.1) = (z.op :: r.map (·.op)).reverse
    rw [List.reverse_cons, drop1_app (by
      obtain ⟨q, t, e⟩ := psE_ne c s r
      rw [e]
      simp), List.map_append, psE_ops c s r, List.reverse_cons]
    rfl
def asE (a0 : Addr) (L : List Mo) : List Addr := L.map (·.a) ++ [a0]
theorem MCh.chain {H : Hp} {c s : Int} {a0 : Addr} : ∀ {L : List Mo} {v : V}, MCh K CM H c s a0 L v → ChainO CM H v (asE a0 L) (psE c s L)
  | [], _, ⟨e, h⟩ => ⟨⟨_, _, _, _, _, e, h, rfl⟩, .cons ⟨_, _, _, h⟩ .nil⟩
  | _ :: _, _, ⟨e, _, w, h, r⟩ => let ⟨a, b⟩ := MCh.chain r; ⟨⟨_, _, _, _, _, e, h, a⟩, .cons ⟨_, _, _, h⟩ b⟩
theorem MCh.ops {H : Hp} {c s : Int} {a0 : Addr} : ∀ {L : List Mo} {v : V}, MCh K CM H c s a0 L v → Paired (OpAt K H) (L.map (·.op)) (ens L)
  | [], _, _ => .nil
  | _ :: _, _, ⟨_, o, _, _, r⟩ => .cons o (MCh.ops r)
/-! ### what is told -/
def ToldV (K : PySem.W.Frag) (A : List Addr) (H : Hp) (c s : Int) (es : List Ent) (v : V) : Prop := ∃ l q g vs, v = .ref l ∧ (l ∉ A ∧ q ∉ A ∧ g ∉ A) ∧
  H l = some (.lst [.int (posE c s es).1, .int (c - (posE c s es).1), .int (posE c s es).2.1, .bl (posE c s es).2.2, .ref q, .ref g]) ∧ H q = some (.lst vs) ∧ Paired (OpAt K H) vs es.reverse ∧ H g = some (.lst ((cntE c s es).map V.int))
theorem ToldV.keep {A : List Addr} {H H1 : Hp} {c s : Int} {es : List Ent} {v : V} (h : ToldV K A H c s es v) (f : Fix H H1) (k : ∀ a xs, a ∉ A → H a = some (.lst xs) → H1 a = some (.lst xs)) : ToldV K A H1 c s es v :=
  let ⟨l, q, g, vs, e, ⟨n1, n2, n3⟩, a, b, d, w⟩ := h
  ⟨l, q, g, vs, e, ⟨n1, n2, n3⟩, k _ _ n1 a, k _ _ n2 b, Paired.mapP d fun _ _ z => z.fix f, k _ _ n3 w⟩
theorem ToldV.same {A : List Addr} {H H1 : Hp} {c s : Int} {es : List Ent} {v : V} (h : ToldV K A H c s es v) (k : Same H H1) : ToldV K A H1 c s es v := h.keep (.of k) fun _ _ _ e => k _ _ e
theorem ToldV.butX {A : List Addr} {H H1 : Hp} {c s : Int} {es : List Ent} {v : V} {h l x : Addr} (g : ToldV K A H c s es v) (b : ButX h l x H H1) (n : NextAt H h l) (hx : ∃ dx c p rv, H x = some (.ins CH dx (houL c p rv))) (ah : h ∈ A) (al : l ∈ A) : ToldV K A H1 c s es v :=
  g.keep (b.fix n hx) fun a xs na e => by
    obtain ⟨_, _, _, _, q⟩ := hx
    exact b _ _ (fun z => na (z ▸ ah)) (fun z => na (z ▸ al)) (ne_of e q fun z => nomatch z) e (fun _ z => nomatch z)
/-- a list more that is told apart -/
theorem ToldV.more {A : List Addr} {H : Hp} {c s : Int} {es : List Ent} {v : V} {a : Addr} (h : ToldV K A H c s es v) (ha : H a = none) : ToldV K (a :: A) H c s es v :=
  let ⟨l, q, g, vs, e, ⟨n1, n2, n3⟩, x1, x2, d, x3⟩ := h
  have nn : ∀ b xs, b ∉ A → H b = some (.lst xs) → b ∉ a :: A := fun b xs nb eb z => by
    rcases List.mem_cons.mp z with z' | z
    · rw [z', ha] at eb; cases eb
    · exact nb z
  ⟨l, q, g, vs, e, ⟨nn _ _ n1 x1, nn _ _ n2 x2, nn _ _ n3 x3⟩, x1, x2, d, x3⟩
theorem told_one {A : List Addr} {H : Hp} {c s : Int} {x a0 : Addr} {L R : List Mo} {Q : VK} {E : XK} (h : HouL K CH CM H c s x a0 L R) (hl : L.length ≤ 800) (hA : ∀ a ∈ A, ∃ o, H a = some o) (k : ∀ v H', Same H H' → ToldV K A H' c s (ens L) v → Q v H') : spTold CH CM [.ref x] H Q E := by
  obtain ⟨m, op, e, rv, hh, hm, hr, _, _⟩ := h.is
  refine ⟨x, m, c, _, _, _, op, e, rv, asE a0 L, psE c s L, rfl, hh, hm.chain, by unfold asE; rw [List.length_append, List.length_map]; show L.length + 1 ≤ 900; omega, fun l q g H' s1 nq ng nl e1 e2 e3 => ?_⟩
  have nA : ∀ b, H b = none → b ∉ A := fun b hb z => by
    obtain ⟨o, w⟩ := hA b z
    rw [hb] at w; cases w
  rw [psE_ops] at e1
  rw [psE_cnt] at e2
  exact k _ H' s1 ⟨l, q, g, _, rfl, ⟨nA _ nl, nA _ nq, nA _ ng⟩, e3, e1, (pr_rev hm.ops |> fun z => Paired.mapP z fun _ _ y => y.same s1), e2⟩
theorem OpAt.ent {H : Hp} {v : V} {e : Ent} (h : OpAt K H v e) : EntAt K H v e := by
  cases e with
  | turn => exact h
  | meet b n => exact h
  | run ss n => exact let ⟨p, tp, ws, a, b, c, d⟩ := h; ⟨p, tp, ws, a, b, c, steps_T d⟩
theorem ops_dp {H : Hp} : ∀ {vs : List V} {es : List Ent}, Paired (OpAt K H) vs es → DpAll K H vs (es.map entD)
  | _, _, .nil => .nil
  | _, _, .cons a r => .cons (entAt_dp a.ent) (ops_dp r)
theorem ints_dp {H : Hp} : ∀ ns : List Int, DpAll K H (ns.map V.int) (ns.map PyData.int)
  | [] => .nil
  | _ :: r => .cons (.int _) (ints_dp r)
def toldD (c s : Int) (es : List Ent) : PyData := .list [.int (posE c s es).1, .int (c - (posE c s es).1), .int (posE c s es).2.1, .bool (posE c s es).2.2, .list (es.reverse.map entD), .list ((cntE c s es).map PyData.int)]
theorem ToldV.dp {A : List Addr} {H : Hp} {c s : Int} {es : List Ent} {v : V} (h : ToldV K A H c s es v) : Dp K H v (toldD c s es) := by
  obtain ⟨l, q, g, vs, rfl, _, a, b, d, w⟩ := h
  exact .lst (.of a) (.cons (.int _) (.cons (.int _) (.cons (.int _) (.cons (.bl _) (.cons (.lst (.of b) (ops_dp d)) (.cons (.lst (.of w) (ints_dp _)) .nil))))))
theorem entD_lay (e : Ent) : PyData.canLay0 (entD e) = true ∧ PyData.depth (entD e) ≤ 3 := by
  cases e with
  | turn => exact ⟨by decide +kernel, by decide +kernel⟩
  | meet b n =>
    have h1 : PyData.strOk (roomS b) = true := by cases b <;> decide +kernel
    have h2 : PyData.strOk "meet" = true := by decide +kernel
    simp [entD, PyData.canLay0, PyData.canLayAll0, PyData.depth, PyData.depthAll, h1, h2]
  | run ss n =>
    obtain ⟨a, b, _⟩ := stpD_lay ss
    have h2 : PyData.strOk "run" = true := by decide +kernel
    simp [entD, PyData.canLay0, PyData.canLayAll0, PyData.depth, PyData.depthAll, h2, a]
    omega
theorem entsD_lay : ∀ es : List Ent, PyData.canLayAll0 (es.map entD) = true ∧ PyData.depthAll (es.map entD) ≤ 3
  | [] => by simp [PyData.canLayAll0, PyData.depthAll]
  | e :: r => by
    obtain ⟨a, b⟩ := entsD_lay r
    obtain ⟨c, d⟩ := entD_lay e
    simp [PyData.canLayAll0, PyData.depthAll, a, c]
    omega
theorem intsD_lay : ∀ ns : List Int, PyData.canLayAll0 (ns.map PyData.int) = true ∧ PyData.depthAll (ns.map PyData.int) ≤ 3
  | [] => by simp [PyData.canLayAll0, PyData.depthAll]
  | n :: r => by
    obtain ⟨a, b⟩ := intsD_lay r
    simp [PyData.canLayAll0, PyData.depthAll, PyData.canLay0, PyData.depth, a]
    omega
theorem toldD_lay (c s : Int) (es : List Ent) : PyData.canLay0 (toldD c s es) = true ∧ PyData.depth (toldD c s es) ≤ 5 := by
  obtain ⟨a, b⟩ := entsD_lay es.reverse
  obtain ⟨d, e⟩ := intsD_lay (cntE c s es)
  unfold toldD
  simp [PyData.canLay0, PyData.canLayAll0, PyData.depth, PyData.depthAll, -List.map_reverse, a, d]
  omega
theorem toldD_shaped (c s : Int) (es : List Ent) : SeqAt.shaped (toldD c s es) = true := by
  obtain ⟨a, b⟩ := toldD_lay c s es
  unfold SeqAt.shaped
  rw [a, Bool.true_and]
  exact decide_eq_true (by omega : PyData.depth (toldD c s es) ≤ 64)
theorem toldD_eqv (c s : Int) (es : List Ent) : PyData.eqv (toldD c s es) (toldD c s es) = true := SeqAt.eqv_refl _ (toldD_lay c s es).1
theorem ops_sm {H : Hp} : ∀ {vs us : List V} {es : List Ent}, (∀ e ∈ es, formE e) → Paired (OpAt K H) vs es → Paired (OpAt K H) us es → Paired (SmD K H 3) vs us
  | [], us, [], _, .nil, b => by cases b; exact .nil
  | v :: vs, _, e :: es, ok, .cons a r, b => by
    cases b with
    | cons a' r' => exact .cons (entAt_sm a.ent a'.ent fun ss n z => by
        have h := ok e List.mem_cons_self
        rw [z] at h
        exact Nat.le_trans h.1 (by decide)) (ops_sm (fun z hz => ok z (List.mem_cons_of_mem _ hz)) r r')
theorem sm_up {H : Hp} {v u : V} {n : Nat} (h : SmD K H n v u) : SmD K H (n + 1) v u := .inl h
theorem ToldV.sm {A B : List Addr} {H : Hp} {c s : Int} {es : List Ent} {v u : V} (hf : ∀ e ∈ es, formE e) (hl : es.length ≤ 800) (h : ToldV K A H c s es v) (h2 : ToldV K B H c s es u) : SmD K H 5 v u := by
  obtain ⟨l, q, g, vs, rfl, _, a, b, d, w⟩ := h
  obtain ⟨l2, q2, g2, vs2, rfl, _, a2, b2, d2, w2⟩ := h2
  have lv : vs.length = es.length := by rw [Paired.length d, List.length_reverse]
  refine .inr ⟨l, l2, _, _, rfl, rfl, by show 6 ≤ 100000; decide, .cons (sm_scal (.inl ⟨_, rfl⟩) 4) (.cons (sm_scal (.inl ⟨_, rfl⟩) 4) (.cons (sm_scal (.inl ⟨_, rfl⟩) 4) (.cons (sm_scal (.inr (.inr (.inl ⟨_, rfl⟩))) 4) (.cons ?_ (.cons ?_ .nil))))), .inl ⟨a, a2⟩⟩
  · exact .inr ⟨q, q2, _, _, rfl, rfl, by omega, ops_sm (fun e he => hf e (List.mem_reverse.mp he)) d d2, .inl ⟨b, b2⟩⟩
  · exact .inr ⟨g, g2, _, _, rfl, rfl, by rw [List.length_map, cntE_len]; omega, sm_all 3 (fun x hx => by
      obtain ⟨i, _, ei⟩ := List.mem_map.mp hx
      exact .inl ⟨i, ei.symm⟩), .inl ⟨w, w2⟩⟩
/-! ### values that are no operations, kept -/
theorem StepAt.fixT {H H1 : Hp} {v : V} {s : Stp} (h : StepAt H v s) (f : Fix H H1) : StepAt H1 v s := let ⟨t, a, b⟩ := h; ⟨t, a, f.1 _ _ b⟩
theorem wrongAt.fix {H H' : Hp} {ws : List V} (h : wrongAt H ws) (f : Fix H H') : wrongAt H' ws :=
  let ⟨l, i, a, b, c, d⟩ := h
  ⟨l, i, a, b, fun j z => let ⟨v, s, e1, e2, e3⟩ := c j z; ⟨v, s, e1, e2.fixT f, e3⟩, d.imp id fun ⟨v, e1, t, xs, e2, e3, e4⟩ => ⟨v, e1, t, xs, e2, f.1 _ _ e3, e4⟩⟩
/-- no operation, by what never changes or a list apart -/
def OddK (K : PySem.W.Frag) (A : List Addr) (H : Hp) (v : V) : Prop :=
  v = .non ∨ (∃ s, v = .str s) ∨ (∃ p xs, v = .ref p ∧ H p = some (.tup xs) ∧ (xs = [] ∨ xs = [.str "jump"] ∨ xs = [.str "meet", .str "red"] ∨ ∃ n, xs = [.str "turn", .int n])) ∨
  (∃ p tp ws n, v = .ref p ∧ H p = some (.tup [.str "run", .ref tp, .int n]) ∧ (TupK K H tp ws ∧ wrongAt H ws ∨ tp ∉ A ∧ H tp = some (.lst ws)))
theorem OddK.odd {A : List Addr} {H : Hp} {v : V} (h : OddK K A H v) : OddAt K H v := by
  rcases h with h | h | h | ⟨p, tp, ws, n, e, a, b⟩
  · exact .inl h
  · exact .inr (.inl h)
  · exact .inr (.inr (.inl h))
  · exact .inr (.inr (.inr ⟨p, tp, ws, n, e, a, b.imp id fun z => z.2⟩))
theorem OddK.keep {A : List Addr} {H H1 : Hp} {v : V} (h : OddK K A H v) (f : Fix H H1) (k : ∀ a xs, a ∉ A → H a = some (.lst xs) → H1 a = some (.lst xs)) : OddK K A H1 v := by
  rcases h with h | h | ⟨p, xs, e, a, b⟩ | ⟨p, tp, ws, n, e, a, b⟩
  · exact .inl h
  · exact .inr (.inl h)
  · exact .inr (.inr (.inl ⟨p, xs, e, f.1 _ _ a, b⟩))
  · exact .inr (.inr (.inr ⟨p, tp, ws, n, e, f.1 _ _ a, b.imp (fun ⟨x, y⟩ => ⟨x.fix f, y.fix f⟩) fun ⟨x, y⟩ => ⟨x, k _ _ x y⟩⟩))
theorem OddK.same {A : List Addr} {H H1 : Hp} {v : V} (h : OddK K A H v) (s : Same H H1) : OddK K A H1 v := h.keep (.of s) fun _ _ _ e => s _ _ e
theorem OddK.butX {A : List Addr} {H H1 : Hp} {v : V} {h l x : Addr} (g : OddK K A H v) (b : ButX h l x H H1) (n : NextAt H h l) (hx : ∃ dx c p rv, H x = some (.ins CH dx (houL c p rv))) (ah : h ∈ A) (al : l ∈ A) : OddK K A H1 v :=
  g.keep (b.fix n hx) fun a xs na e => by
    obtain ⟨_, _, _, _, q⟩ := hx
    exact b _ _ (fun z => na (z ▸ ah)) (fun z => na (z ▸ al)) (ne_of e q fun z => nomatch z) e (fun _ z => nomatch z)
end
end Cc

set_option maxHeartbeats 8000000
/-! Groups that a house refuses, as the law asks. -/
namespace Cc
open PySem PySem.Spec PyProof.Rows L2
open LamX
def tbApp2 (K : PySem.W.Frag) (CH CM CE CT CO : Addr) (i j l : Nat) : XK → TE := fun E => tMethR CH "apply" (spApply K CH CM CE CT CO) E (tVar i) (tCons (tVar j) (tCons (tVar l) tNil))
def tbApp3 (K : PySem.W.Frag) (CH CM CE CT CO : Addr) (i j l : Nat) : XK → TE := fun E => tMethR CH "apply" (spApply K CH CM CE CT CO) E (tVar i) (tCons (tTup (tCons (tC (.str "turn")) tNil)) (tCons (tVar j) (tCons (tVar l) tNil)))
def spGroup (K : PySem.W.Frag) (CH CM : Addr) (TT : List (Addr × Str)) : Sp := fun vs H Q _ => ∃ (h l x a0 : Addr) (c s : Int) (L R : List Mo), vs = [.ref h, .ref x, .int c] ∧ NextAt H h l ∧ Tabs TT H ∧ HouL K CH CM H c s x a0 L R ∧ L.length ≤ 800 ∧ 0 ≤ c ∧ c < 1000000000000000000 ∧ 0 ≤ (posE c s (ens L)).1 ∧ (posE c s (ens L)).1 ≤ c ∧
  ∀ H', ButX h l x H H' → NextAt H' h l → Tabs TT H' → HouL K CH CM H' c s x a0 L R → Q (.bl true) H'
section
variable {K : PySem.W.Frag} {CH CM CER e0 e1 e2 e3 e4 e5 e6 e7 e8 : Addr} {TT : List (Addr × Str)} {h l x a0 : Addr} {c s : Int} {L R : List Mo} {H : Hp} {σ : L2.St} {i j k2 : Nat} {Q : VK}
theorem grp_fin {m : Addr} {op e rv : V} {H1 H2 H' : Hp} (hx1 : HouL K CH CM H1 c s x a0 L R) (N1 : NextAt H1 h l) (T1 : Tabs TT H1) (hm : MCh K CM H1 c s a0 L (.ref m)) (hr : RCh K CM H1 c s R L (.ref m) rv) (b1 : ButX h l x H H1) (s2 : Same H1 H2) (b : But x H2 H') (g : HouseIs CH CM H' x c m op (posE c s (ens L)).1 (posE c s (ens L)).2.1 (posE c s (ens L)).2.2 e rv) :
    ButX h l x H H' ∧ NextAt H' h l ∧ Tabs TT H' ∧ HouL K CH CM H' c s x a0 L R := by
  have hx2 := (hx1.same s2).hx
  exact ⟨(b1.trans (.of s2)).trans (.of1 b), (N1.same s2).butH b hx2, tabs_butH (Tabs.ext T1 s2) b hx2, m, rv, g.at_, (hm.keep (.of s2) (.of s2)).keep (.but b hx2) (.but b hx2), (hr.keep (.of s2) (.of s2)).keep (.but b hx2) (.but b hx2)⟩
theorem told_ne {x a0 : Addr} {L R : List Mo} {A : List Addr} {v0 : V} {Q : Bool → Hp → Prop} (i1 : σ[i]? = some (some (.ref x))) (i2 : σ[j]? = some (some v0)) (hx : HouL K CH CM H c s x a0 L R) (hl : L.length ≤ 800) (t : ToldV K A H c s (ens L) v0) (k : ∀ H', Same H H' → Q false H') :
    (tTest (tOp (rNeD K) (fun sg Hh Qz => tCons (tVar i) tNil sg Hh fun vs H1 => spTold CH CM vs H1 Qz E0) (tVar j))) σ H Q := by
  refine ⟨_, i1, ?_⟩
  dsimp only [tNil, tCons]
  refine told_one (A := []) hx hl (fun a ha => nomatch ha) fun v H1 s1 t1 => ⟨_, i2, _, _, t1.dp, (t.same s1).dp, toldD_shaped _ _ _, toldD_shaped _ _ _, _, rfl, ?_⟩
  rw [toldD_eqv]
  exact k H1 s1
theorem told_eq {x a0 : Addr} {L R : List Mo} {A : List Addr} {v0 : V} {Q : VK} (i1 : σ[i]? = some (some (.ref x))) (i2 : σ[j]? = some (some v0)) (hx : HouL K CH CM H c s x a0 L R) (hl : L.length ≤ 800) (t : ToldV K A H c s (ens L) v0) (k : ∀ H', Same H H' → Q (.bl true) H') :
    (tOp (rEqD K) (fun sg Hh Qz => tCons (tVar i) tNil sg Hh fun vs H1 => spTold CH CM vs H1 Qz E0) (tVar j)) σ H Q := by
  refine ⟨_, i1, ?_⟩
  dsimp only [tNil, tCons]
  refine told_one (A := []) hx hl (fun a ha => nomatch ha) fun v H1 s1 t1 => ⟨_, i2, _, _, t1.dp, (t.same s1).dp, toldD_shaped _ _ _, toldD_shaped _ _ _, ?_⟩
  rw [toldD_eqv]
  exact k H1 s1
theorem rep_one (n : Nat) (v : V) : (List.replicate n [v]).flatten = List.replicate n v := by
  induction n with
  | zero => rfl
  | succ n ih => rw [List.replicate_succ, List.flatten_cons, ih, List.replicate_succ]; rfl
/-- a group of two of which the second is refused, told -/
theorem grp_two {v v2 : V} {en : Ent} {r : List V} (KO : IsKind K CER e0 e1 e2 e3 e4 e5 e6 e7 e8 e4 "operation") (KE : IsKind K CER e0 e1 e2 e3 e4 e5 e6 e7 e8 e7 "enough") (KF : IsKind K CER e0 e1 e2 e3 e4 e5 e6 e7 e8 e8 "few")
    (i1 : σ[i]? = some (some (.ref x))) (i2 : σ[j]? = some (some v)) (i3 : σ[k2]? = some (some v2))
    (hx : HouL K CH CM H c s x a0 L R) (N : NextAt H h l) (T : Tabs TT H) (c0 : 0 ≤ c) (c1 : c < 1000000000000000000) (r0 : 0 ≤ (posE c s (ens L)).1) (r1 : (posE c s (ens L)).1 ≤ c) (ho : OpAt K H v en) (hf : formE en) (hc : canE c en)
    (hk : (OddK K [h, l] H v2 ∧ r = [.str "operation", .int 1]) ∨ (OpAt K H v2 (.meet true (c + 1)) ∧ r = [.str "enough"]) ∨ (OpAt K H v2 (.run [.turn, .meet false (c + 1)] 1) ∧ r = [.str "few", .int 1]))
    (k : ∀ p H', ButX h l x H H' → NextAt H' h l → Tabs TT H' → HouL K CH CM H' c s x a0 L R → H' p = some (.tup r) → Q (.ref p) H') :
    Tabs TT H ∧ ∀ f H1, H f = none → ExtN H H1 → Tabs TT H1 → tbApp2 K CH CM e7 e8 e4 i j k2 (OutA K CER e0 e1 e2 e3 e4 e5 e6 e7 e8 Q) σ H1 (outQ Q) := by
  refine ⟨T, fun f H1 nf x1 T1 => ?_⟩
  have b1 : ButX h l x H H1 := .ext x1
  have f1 : Fix H H1 := b1.fix N hx.hx
  have hx1 := hx.ext x1
  have N1 := N.ext x1
  obtain ⟨m, op, e, rv, hh, hm, hr, _, _⟩ := hx1.is
  obtain ⟨dx, ax⟩ := hh.at_
  refine ⟨_, i1, x, dx, _, rfl, ax, lkS (by decide) (lkS (by decide) (lkS (by decide) lkN)), _, i2, _, i3, [.ref x], [v, v2], rfl, rfl, by show 2 ≤ sizeLine; decide, fun p hp => ?_⟩
  have s2 := same_upd (o := .tup [v, v2]) hp
  have g2 := upd_same (H := H1) (a := p) (o := .tup [v, v2])
  generalize upd H1 p (.tup [v, v2]) = H2 at *
  refine ⟨x, p, m, c, _, _, _, op, e, rv, [v, v2], rfl, g2, hh.same s2, c0, by omega, r0, r1, ?_⟩
  have ho2 := (ho.fix f1).same s2
  rcases hk with ⟨hk, rfl⟩ | ⟨hk, rfl⟩ | ⟨hk, rfl⟩
  · have od : OddAt K H2 v2 := ((hk.butX b1 N hx.hx List.mem_cons_self (List.mem_cons_of_mem _ List.mem_cons_self)).same s2).odd
    refine .inr (.inr (.inr ⟨by show 2 ≤ 1000; decide, 1, fun j v' hj e' => ?_, ⟨v2, rfl, od⟩, fun H3 d s3 hd => ?_⟩))
    · have : j = 0 := by omega
      subst this
      cases e'
      exact ⟨en, ho2, hf⟩
    have s4 := s3.trans (same_upd (o := .xd [(("index" : Str), .int ((1 : Nat) : Int))]) hd)
    have g4 := upd_same (H := H3) (a := d) (o := .xd [(("index" : Str), .int ((1 : Nat) : Int))])
    generalize upd H3 d (.xd [(("index" : Str), .int ((1 : Nat) : Int))]) = H4 at *
    refine ⟨e4, "operation", [.str "operation", .int 1], rfl, KO, fun dd e => ?_, .inl ⟨by decide +kernel, d, _, _, rfl, g4, lkZ, rfl⟩, fun fo H5 s5 e5 => ?_⟩
    · injection e with e
      subst e
      exact ⟨_, g4⟩
    have s6 := s2.trans (s4.trans s5)
    exact k fo H5 (b1.trans (.of s6)) (N1.same s6) (Tabs.ext T1 s6) (hx1.same s6) e5
  · refine .inr (.inr (.inl ⟨v, v2, en, _, rfl, ho2, hf, hc, (hk.fix f1).same s2, trivial, .inl ⟨true, c + 1, rfl, by omega, by omega, by omega, fun H3 b3 h3 => ?_⟩⟩))
    obtain ⟨z1, z2, z3, z4⟩ := grp_fin hx1 N1 T1 hm hr b1 s2 b3 h3
    refine ⟨e7, "enough", [.str "enough"], rfl, KE, (fun dd e => nomatch e), .inr (.inr (.inr ⟨by decide +kernel, by decide +kernel, by decide +kernel, rfl⟩)), fun fo H5 s5 e5 => ?_⟩
    exact k fo H5 (z1.trans (.of s5)) (z2.same s5) (Tabs.ext z3 s5) (z4.same s5) e5
  · have few1 : FewAt c [.turn, .meet false (c + 1)] 1 := ⟨fun t ht => by
      rw [List.mem_singleton.mp ht]
      exact id, false, c + 1, rfl, by omega⟩
    refine .inr (.inr (.inl ⟨v, v2, en, _, rfl, ho2, hf, hc, (hk.fix f1).same s2, ⟨by show 2 ≤ 60; decide, fun t ht => ?_⟩, .inr ⟨_, 1, rfl, ⟨.meet false (c + 1), List.mem_cons_of_mem _ List.mem_cons_self, by show c < c + 1; omega⟩, fun i' H3 d fa b3 h3 hd => ?_⟩⟩))
    · rcases List.mem_cons.mp ht with z | z1
      · subst z; trivial
      · rw [List.mem_singleton.mp z1]
        exact ⟨by omega, by omega⟩
    have ei := few_uniq fa few1
    subst ei
    obtain ⟨z1, z2, z3, z4⟩ := grp_fin hx1 N1 T1 hm hr b1 s2 b3 h3
    refine ⟨e8, "few", [.str "few", .int 1], rfl, KF, fun dd e => ?_, .inl ⟨by decide +kernel, d, _, _, rfl, hd, lkZ, rfl⟩, fun fo H5 s5 e5 => ?_⟩
    · injection e with e
      subst e
      exact ⟨_, hd⟩
    exact k fo H5 (z1.trans (.of s5)) (z2.same s5) (Tabs.ext z3 s5) (z4.same s5) e5
/-- a group of three whose last is no operation -/
theorem grp_three {v v2 : V} (KO : IsKind K CER e0 e1 e2 e3 e4 e5 e6 e7 e8 e4 "operation")
    (i1 : σ[i]? = some (some (.ref x))) (i2 : σ[j]? = some (some v)) (i3 : σ[k2]? = some (some v2))
    (hx : HouL K CH CM H c s x a0 L R) (N : NextAt H h l) (T : Tabs TT H) (c0 : 0 ≤ c) (c1 : c < 1000000000000000000) (r0 : 0 ≤ (posE c s (ens L)).1) (r1 : (posE c s (ens L)).1 ≤ c)
    (ho : OpAt K H v (.run [.turn, .meet false (c + 1)] 1)) (hk : OddK K [h, l] H v2)
    (k : ∀ p H', ButX h l x H H' → NextAt H' h l → Tabs TT H' → HouL K CH CM H' c s x a0 L R → H' p = some (.tup [.str "operation", .int 2]) → Q (.ref p) H') :
    Tabs TT H ∧ ∀ f H1, H f = none → ExtN H H1 → Tabs TT H1 → tbApp3 K CH CM e7 e8 e4 i j k2 (OutA K CER e0 e1 e2 e3 e4 e5 e6 e7 e8 Q) σ H1 (outQ Q) := by
  refine ⟨T, fun f H1 nf x1 T1 => ?_⟩
  have b1 : ButX h l x H H1 := .ext x1
  have f1 : Fix H H1 := b1.fix N hx.hx
  have hx1 := hx.ext x1
  have N1 := N.ext x1
  obtain ⟨dx', c', p', rv', ax⟩ := hx1.hx
  refine ⟨_, i1, x, _, _, rfl, ax, lkS (by decide) (lkS (by decide) (lkS (by decide) lkN)), by show 1 ≤ sizeLine; decide, fun tq htq => ⟨_, i2, _, i3, [.ref x], [.ref tq, v, v2], rfl, rfl, by show 3 ≤ sizeLine; decide, fun p hp => ?_⟩⟩
  have s2' := same_upd (o := .tup [.str "turn"]) htq
  have g2' := upd_same (H := H1) (a := tq) (o := .tup [.str "turn"])
  generalize upd H1 tq (.tup [.str "turn"]) = H1' at *
  have s2'' := same_upd (o := .tup [.ref tq, v, v2]) hp
  have g2 := upd_same (H := H1') (a := p) (o := .tup [.ref tq, v, v2])
  have gt := s2'' _ _ g2'
  generalize upd H1' p (.tup [.ref tq, v, v2]) = H2 at *
  have s2 := s2'.trans s2''
  obtain ⟨m, op, e, rv, hh, hm, hr, _, _⟩ := hx1.is
  refine ⟨x, p, m, c, _, _, _, op, e, rv, [.ref tq, v, v2], rfl, g2, hh.same s2, c0, by omega, r0, r1, ?_⟩
  have od : OddAt K H2 v2 := ((hk.butX b1 N hx.hx List.mem_cons_self (List.mem_cons_of_mem _ List.mem_cons_self)).same s2).odd
  refine .inr (.inr (.inr ⟨by show 3 ≤ 1000; decide, 2, fun j v' hj e' => ?_, ⟨v2, rfl, od⟩, fun H3 d s3 hd => ?_⟩))
  · have : j = 0 ∨ j = 1 := by omega
    rcases this with rfl | rfl
    · cases e'
      exact ⟨.turn, ⟨tq, rfl, TupK.of gt⟩, trivial⟩
    · cases e'
      refine ⟨_, (ho.fix f1).same s2, by show 2 ≤ 60; decide, fun t ht => ?_⟩
      rcases List.mem_cons.mp ht with z | z1
      · subst z; trivial
      · rw [List.mem_singleton.mp z1]
        exact ⟨by omega, by omega⟩
  have s4 := s3.trans (same_upd (o := .xd [(("index" : Str), .int ((2 : Nat) : Int))]) hd)
  have g4 := upd_same (H := H3) (a := d) (o := .xd [(("index" : Str), .int ((2 : Nat) : Int))])
  generalize upd H3 d (.xd [(("index" : Str), .int ((2 : Nat) : Int))]) = H4 at *
  refine ⟨e4, "operation", [.str "operation", .int 2], rfl, KO, fun dd e => ?_, .inl ⟨by decide +kernel, d, _, _, rfl, g4, lkZ, rfl⟩, fun fo H5 s5 e5 => ?_⟩
  · injection e with e
    subst e
    exact ⟨_, g4⟩
  have s6 := s2.trans (s4.trans s5)
  exact k fo H5 (b1.trans (.of s6)) (N1.same s6) (Tabs.ext T1 s6) (hx1.same s6) e5
end
section
variable {P : Program} {w : World} {K : PySem.W.Frag} {mg : Str → Option Value} {base : Heap} {C CH CM TU pS gS : Addr} {mc : Value}
abbrev s__law_group_right : Stmt := top 45
abbrev n__law_group_right : List Str := ["_law_h", "_law_house", "_law_chairs", "_law_before", "_law_deed_here", "_law_odd", "_law_bad", "_law_much", "_law_few"]
theorem sc__law_group_right : FnScope n__law_group_right ["_law_h", "_law_house", "_law_chairs"] (defScope s__law_group_right) := ⟨rfl, rfl, rfl, by decide +kernel, rfl, by decide +kernel, by decide +kernel⟩
abbrev q__law_group_right : Str := (envOfC "_law_group_right" (defScope s__law_group_right) 0 0 .none).qual ++ "<lambda>"
abbrev X__law_group_right (P : Program) (w : World) (K : PySem.W.Frag) (mg : Str → Option Value) (base : Heap) (f c : Addr) (A : Around) (outer : List Env) (s : Shared) (H : Hp) (E : XK) : Cx := (cxOf CX0 P w K mg base n__law_group_right "_law_group_right" (defScope s__law_group_right) f (.ref c) A outer s H E).nox
theorem ok__law_group_right {f c Pt f__law_deed f__law_told f__law_next fO CER e0 e1 e2 e3 e4 e5 e6 e7 e8 fAp : Addr} {oc kV doc pm ct : Value} {od an : Option Addr} {osl : Array (Option Value)} {fdO : FuncData} {TT : List (Addr × Str)}
    (lk : K.lookup f = some ⟨oc, od, .func (PySem.W.fnOf "_law_group_right" "_law_group_right" (defArgs s__law_group_right) (defBody s__law_group_right) (defScope s__law_group_right) .none kV doc pm an (.ref c) ct), osl⟩) (hcd : PySem.W.codeIn K (.ref c) "_law_group_right" = true) (TB : TabB base mg c Pt) (hmT : (Pt, q__law_group_right) ∈ TT) (huT : ∀ p ∈ TT, p.1 = Pt → p.2 = q__law_group_right) (T : Txt K mg C TU pS gS mc)
    (D__law_deed : Dn P w K mg base 8 "_law_deed" f__law_deed (spDeed4 K)) (D__law_told : Dn P w K mg base 6 "_law_told" f__law_told (spTold CH CM)) (D__law_next : Dn P w K mg base 1 "_law_next" f__law_next spNext)
    (FO : Fun K "_law_outcome" "_law_outcome" sOutcome fO fdO) (atO : mg "_law_outcome" = some (.ref fO)) (kpO : PySem.W.keepIn K (.ref fO) = true) (bO : Binds K fdO ["_law_call"] []) (hCE : mg "ChairError" = some (.ref CER)) (KO : IsKind K CER e0 e1 e2 e3 e4 e5 e6 e7 e8 e4 "operation") (KE : IsKind K CER e0 e1 e2 e3 e4 e5 e6 e7 e8 e7 "enough") (KF : IsKind K CER e0 e1 e2 e3 e4 e5 e6 e7 e8 e8 "few") (NG : Nine mg e0 e1 e2 e3 e4 e5 e6 e7 e8) (OH : HTxt K CH) (MAp : Meth K CH "apply" fAp) (GAp : FnR P w K mg base (L2.CX P w) 9 fAp (spApply K CH CM e7 e8 e4)) :
    FnOk P w K mg base CX0 12 f (PySem.W.fnOf "_law_group_right" "_law_group_right" (defArgs s__law_group_right) (defBody s__law_group_right) (defScope s__law_group_right) .none kV doc pm an (.ref c) ct) ["_law_h", "_law_house", "_law_chairs"] (spGroup K CH CM TT) := by
  have B := T.b
  refine fn_of lk hcd sc__law_group_right (fun vs H Q E h => ?_) fun A outer s H vs Q E hr h => ?_
  · obtain ⟨h, l, x, a0, c, s, L, R, rfl, _⟩ := h
    rfl
  · obtain ⟨h, l, x, a0, c0, s0, L, R, rfl, N0, T0, hx0, hl0, c00, c01, r0, r1, k⟩ := h
    suffices h : ∃ t, PSs (X__law_group_right P w K mg base f c A outer s H E) (defBody s__law_group_right) t ∧ t { nx := fun _ H' => Q .non H', rt := Q } (start n__law_group_right [.ref h, .ref x, .int c0]) H from let ⟨t, h1, h2⟩ := h; ⟨t, h1.nox, h2⟩
    have hm : (Pt, (X__law_group_right P w K mg base f c A outer s H E).env.qual ++ "<lambda>") ∈ TT := hmT
    have hu : ∀ p ∈ TT, p.1 = Pt → p.2 = (X__law_group_right P w K mg base f c A outer s H E).env.qual ++ "<lambda>" := huT
    refine ⟨_, pss_cons (ps_asg (pe_tup (pa_cons (pe_callR D__law_told.ok (hr.mono (by decide)) rfl D__law_told.at_ D__law_told.kp pass0 (pa_cons (pv 1) pa_nil)) (pa_cons (pe_callR D__law_deed.ok (hr.mono (by decide)) rfl D__law_deed.at_ D__law_deed.kp pass0 (pa_cons (pv 0) (pa_cons (pv 2) pa_nil))) pa_nil))) (pg_tup rfl (pgs_cons (pg_name (i := 3) sc__law_group_right.nd rfl (.inl rfl)) (pgs_cons (pg_name (i := 4) sc__law_group_right.nd rfl (.inr rfl)) pgs_nil))))
      (pss_cons (ps_set (i := 5) sc__law_group_right.nd rfl (.inl rfl) (pe_lst (pa_cons (pe_tup (pa_cons pe_str pa_nil)) (pa_cons (pe_tup (pa_cons pe_str (pa_cons pe_str pa_nil))) (pa_cons (pe_tup (pa_cons pe_str (pa_cons pe_int pa_nil))) (pa_cons (pe_tup pa_nil) (pa_cons pe_non (pa_cons pe_str (pa_cons (pe_tup (pa_cons pe_str (pa_cons (pe_lst (pa_cons (pe_tup (pa_cons pe_str pa_nil)) pa_nil)) (pa_cons pe_int pa_nil)))) (pa_cons (pe_tup (pa_cons pe_str (pa_cons (pe_tup (pa_cons (pe_tup (pa_cons pe_str (pa_cons pe_int pa_nil))) pa_nil)) (pa_cons pe_int pa_nil)))) pa_nil))))))))))
      (pss_cons (ps_set (i := 5) sc__law_group_right.nd rfl (.inl rfl) (pe_op op_cat (pv 5) (pe_lst (pa_cons (pe_tup (pa_cons pe_str (pa_cons (pe_tup (pa_cons (pe_tup (pa_cons pe_str (pa_cons (pe_un un_neg pe_int) pa_nil))) pa_nil)) (pa_cons pe_int pa_nil)))) (pa_cons (pe_tup (pa_cons pe_str (pa_cons (pe_op op_repG (pe_tup (pa_cons (pe_tup (pa_cons pe_str pa_nil)) pa_nil)) pe_int) (pa_cons pe_int pa_nil)))) pa_nil)))))
      (pss_cons (ps_set (i := 6) sc__law_group_right.nd rfl (.inr rfl) (pe_ix ix_list (pv 5) (pe_callR D__law_next.ok (hr.mono (by decide)) rfl D__law_next.at_ D__law_next.kp pass0 (pa_cons (pv 0) (pa_cons pe_int pa_nil))) (fun _ _ => rfl)))
      (pss_cons (ps_if (PW.pt (pw_or (pt_cmpR (op_neD hr.units) (pe_outM (tb := tbApp2 K CH CM e7 e8 e4 1 4 6) FO atO kpO bO hCE NG B hr (by rfl) TB rfl hm hu rfl rfl (lamN_by (N := n__law_group_right) (sc := defScope s__law_group_right) (by decide +kernel)) (fun _ _ _ _ _ => rfl) (fun E f A outer s H c' hr' => by exact pe_methR (pv 1) OH.cl MAp GAp (hr'.mono (by decide)) (passes_call (takes_of rfl rfl rfl rfl) fun _ _ _ _ h => h) (pa_cons (pv 4) (pa_cons (pv 6) pa_nil)))) (pe_tup (pa_cons pe_str (pa_cons pe_int pa_nil))) (nomark _)) (pw_or1 (pt_cmpR (op_neD hr.units) (pe_callR D__law_told.ok (hr.mono (by decide)) rfl D__law_told.at_ D__law_told.kp pass0 (pa_cons (pv 1) pa_nil)) (pv 3) (nomark _)))))
        (pss_one (ps_ret pe_bl)) pss_nil)
      (pss_cons (ps_set (i := 7) sc__law_group_right.nd rfl (.inr rfl) (pe_tup (pa_cons pe_str (pa_cons pe_str (pa_cons (pe_op op_add (pv 2) pe_int) pa_nil)))))
      (pss_cons (ps_if (PW.pt (pw_or (pt_cmpR (op_neD hr.units) (pe_outM (tb := tbApp2 K CH CM e7 e8 e4 1 4 7) FO atO kpO bO hCE NG B hr (by rfl) TB rfl hm hu rfl rfl (lamN_by (N := n__law_group_right) (sc := defScope s__law_group_right) (by decide +kernel)) (fun _ _ _ _ _ => rfl) (fun E f A outer s H c' hr' => by exact pe_methR (pv 1) OH.cl MAp GAp (hr'.mono (by decide)) (passes_call (takes_of rfl rfl rfl rfl) fun _ _ _ _ h => h) (pa_cons (pv 4) (pa_cons (pv 7) pa_nil)))) (pe_tup (pa_cons pe_str pa_nil)) (nomark _)) (pw_or1 (pt_cmpR (op_neD hr.units) (pe_callR D__law_told.ok (hr.mono (by decide)) rfl D__law_told.at_ D__law_told.kp pass0 (pa_cons (pv 1) pa_nil)) (pv 3) (nomark _)))))
        (pss_one (ps_ret pe_bl)) pss_nil)
      (pss_cons (ps_set (i := 8) sc__law_group_right.nd rfl (.inr rfl) (pe_tup (pa_cons pe_str (pa_cons (pe_tup (pa_cons (pe_tup (pa_cons pe_str pa_nil)) (pa_cons (pe_tup (pa_cons pe_str (pa_cons (pe_op op_add (pv 2) pe_int) pa_nil))) pa_nil))) (pa_cons pe_int pa_nil)))))
      (pss_cons (ps_if (pt_cmpR op_ne (pe_ix ix_tup (pe_outM (tb := tbApp3 K CH CM e7 e8 e4 1 8 6) FO atO kpO bO hCE NG B hr (by rfl) TB rfl hm hu rfl rfl (lamN_by (N := n__law_group_right) (sc := defScope s__law_group_right) (by decide +kernel)) (fun _ _ _ _ _ => rfl) (fun E f A outer s H c' hr' => by exact pe_methR (pv 1) OH.cl MAp GAp (hr'.mono (by decide)) (passes_call (takes_of rfl rfl rfl rfl) fun _ _ _ _ h => h) (pa_cons (pe_tup (pa_cons pe_str pa_nil)) (pa_cons (pv 8) (pa_cons (pv 6) pa_nil))))) pe_int (fun _ _ => rfl)) pe_str (nomark _))
        (pss_one (ps_ret pe_bl)) pss_nil)
      (pss_cons (ps_if (pt_cmpR (op_neD hr.units) (pe_outM (tb := tbApp2 K CH CM e7 e8 e4 1 4 8) FO atO kpO bO hCE NG B hr (by rfl) TB rfl hm hu rfl rfl (lamN_by (N := n__law_group_right) (sc := defScope s__law_group_right) (by decide +kernel)) (fun _ _ _ _ _ => rfl) (fun E f A outer s H c' hr' => by exact pe_methR (pv 1) OH.cl MAp GAp (hr'.mono (by decide)) (passes_call (takes_of rfl rfl rfl rfl) fun _ _ _ _ h => h) (pa_cons (pv 4) (pa_cons (pv 8) pa_nil)))) (pe_tup (pa_cons pe_str (pa_cons pe_int pa_nil))) (nomark _))
        (pss_one (ps_ret pe_bl)) pss_nil)
      (pss_one (ps_ret (pe_cmpR (op_eqD hr.units) (pe_callR D__law_told.ok (hr.mono (by decide)) rfl D__law_told.at_ D__law_told.kp pass0 (pa_cons (pv 1) pa_nil)) (pv 3) (nomark _))))))))))))), ?_⟩
    refine ⟨_, rfl, ?_⟩
    dsimp only [tNil, tCons]
    refine told_one (A := [h, l]) hx0 hl0 (fun a ha => ?_) fun v0 H1 s1 t1 => ?_
    · obtain ⟨xs, e1⟩ := N0.h1
      obtain ⟨ys, e2⟩ := N0.l1
      rcases List.mem_cons.mp ha with z | z
      · exact ⟨_, z ▸ e1⟩
      · exact ⟨_, List.mem_singleton.mp z ▸ e2⟩
    have N1 := N0.same s1
    have T1 := Tabs.ext T0 s1
    have hx1 := hx0.same s1
    refine ⟨_, rfl, _, rfl, h, l, c0, rfl, N1, c00, by omega, fun dv en H2 N2 b2 o2 cn fe => ⟨by show 2 ≤ sizeLine; decide, fun q1 hq1 => ?_⟩⟩
    have T2 := tabs_but2 T1 b2 N1
    have hx2 := hx1.but2 b2 N1
    have t2 := t1.butX (.of2 b2) N1 hx1.hx (List.mem_cons_self) (List.mem_cons_of_mem _ List.mem_cons_self)
    have bx2 : ButX h l x H H2 := (ButX.of s1).trans (.of2 b2)
    have s3 := same_upd (o := .tup [v0, dv]) hq1
    have g3 := upd_same (H := H2) (a := q1) (o := .tup [v0, dv])
    generalize upd H2 q1 (.tup [v0, dv]) = H3 at *
    refine ⟨q1, _, rfl, SqT.of g3, rfl, _, _, rfl, _, _, rfl, rfl, ?_⟩
    have N3 := N2.same s3
    have T3 := Tabs.ext T2 s3
    have hx3 := hx2.same s3
    have t3 := t2.same s3
    have o3 := o2.same s3
    have bx3 := bx2.trans (.of s3)
    clear N1 T1 hx1 t1 s1 N2 T2 hx2 t2 b2 o2 bx2 g3 s3 hq1 N0 T0 hx0
    -- the odd values
    refine ⟨by show 1 ≤ sizeLine; decide, fun p1 n1 => ?_⟩
    have s4 := same_upd (o := .tup [.str "jump"]) n1
    have g1 := upd_same (H := H3) (a := p1) (o := .tup [.str "jump"])
    generalize upd H3 p1 (.tup [.str "jump"]) = H4 at *
    refine ⟨by show 2 ≤ sizeLine; decide, fun p2 n2 => ?_⟩
    have s5 := same_upd (o := .tup [.str "meet", .str "red"]) n2
    have g2 := upd_same (H := H4) (a := p2) (o := .tup [.str "meet", .str "red"])
    generalize upd H4 p2 (.tup [.str "meet", .str "red"]) = H5 at *
    refine ⟨by show 2 ≤ sizeLine; decide, fun p3 n3 => ?_⟩
    have s6 := same_upd (o := .tup [.str "turn", .int 1]) n3
    have g3 := upd_same (H := H5) (a := p3) (o := .tup [.str "turn", .int 1])
    generalize upd H5 p3 (.tup [.str "turn", .int 1]) = H6 at *
    refine ⟨by show 0 ≤ sizeLine; decide, fun p4 n4 => ?_⟩
    have s7 := same_upd (o := .tup []) n4
    have g4 := upd_same (H := H6) (a := p4) (o := .tup [])
    generalize upd H6 p4 (.tup []) = H7 at *
    refine ⟨by show 1 ≤ sizeLine; decide, fun p5 n5 => ?_⟩
    have s8 := same_upd (o := .tup [.str "turn"]) n5
    generalize upd H7 p5 (.tup [.str "turn"]) = H8 at *
    refine ⟨by show 1 ≤ sizeLine; decide, fun p6 n6 => ?_⟩
    have s9 := same_upd (o := .lst [.ref p5]) n6
    have g6 := upd_same (H := H8) (a := p6) (o := .lst [.ref p5])
    generalize upd H8 p6 (.lst [.ref p5]) = H9 at *
    refine ⟨by show 3 ≤ sizeLine; decide, fun p7 n7 => ?_⟩
    have s10 := same_upd (o := .tup [.str "run", .ref p6, .int 1]) n7
    have g7 := upd_same (H := H9) (a := p7) (o := .tup [.str "run", .ref p6, .int 1])
    generalize upd H9 p7 (.tup [.str "run", .ref p6, .int 1]) = H10 at *
    refine ⟨by show 2 ≤ sizeLine; decide, fun p8 n8 => ?_⟩
    have s11 := same_upd (o := .tup [.str "green", .int 1]) n8
    have g8 := upd_same (H := H10) (a := p8) (o := .tup [.str "green", .int 1])
    generalize upd H10 p8 (.tup [.str "green", .int 1]) = H11 at *
    refine ⟨by show 1 ≤ sizeLine; decide, fun p9 n9 => ?_⟩
    have s12 := same_upd (o := .tup [.ref p8]) n9
    have g9 := upd_same (H := H11) (a := p9) (o := .tup [.ref p8])
    generalize upd H11 p9 (.tup [.ref p8]) = H12 at *
    refine ⟨by show 3 ≤ sizeLine; decide, fun p10 n10 => ?_⟩
    have s13 := same_upd (o := .tup [.str "run", .ref p9, .int 1]) n10
    have g10 := upd_same (H := H12) (a := p10) (o := .tup [.str "run", .ref p9, .int 1])
    generalize upd H12 p10 (.tup [.str "run", .ref p9, .int 1]) = H13 at *
    refine ⟨by show 8 ≤ sizeLine; decide, fun p11 n11 => ?_⟩
    have s14 := same_upd (o := .lst [.ref p1, .ref p2, .ref p3, .ref p4, .non, .str "turn", .ref p7, .ref p10]) n11
    have g11 := upd_same (H := H13) (a := p11) (o := .lst [.ref p1, .ref p2, .ref p3, .ref p4, .non, .str "turn", .ref p7, .ref p10])
    generalize upd H13 p11 (.lst [.ref p1, .ref p2, .ref p3, .ref p4, .non, .str "turn", .ref p7, .ref p10]) = H14 at *
    refine ⟨_, rfl, _, rfl, by show 2 ≤ sizeLine; decide, fun p12 n12 => ?_⟩
    have s15 := same_upd (o := .tup [.str "blue", .int (-1)]) n12
    have g12 := upd_same (H := H14) (a := p12) (o := .tup [.str "blue", .int (-1)])
    dsimp only
    generalize upd H14 p12 (.tup [.str "blue", .int (-1)]) = H15 at *
    refine ⟨by show 1 ≤ sizeLine; decide, fun p13 n13 => ?_⟩
    have s16 := same_upd (o := .tup [.ref p12]) n13
    have g13 := upd_same (H := H15) (a := p13) (o := .tup [.ref p12])
    generalize upd H15 p13 (.tup [.ref p12]) = H16 at *
    refine ⟨by show 3 ≤ sizeLine; decide, fun p14 n14 => ?_⟩
    have s17 := same_upd (o := .tup [.str "run", .ref p13, .int 1]) n14
    have g14 := upd_same (H := H16) (a := p14) (o := .tup [.str "run", .ref p13, .int 1])
    generalize upd H16 p14 (.tup [.str "run", .ref p13, .int 1]) = H17 at *
    refine ⟨by show 1 ≤ sizeLine; decide, fun p15 n15 => ?_⟩
    have s18 := same_upd (o := .tup [.str "turn"]) n15
    have g15 := upd_same (H := H17) (a := p15) (o := .tup [.str "turn"])
    generalize upd H17 p15 (.tup [.str "turn"]) = H18 at *
    refine ⟨by show 1 ≤ sizeLine; decide, fun p16 n16 => ?_⟩
    have s19 := same_upd (o := .tup [.ref p15]) n16
    have g16 := upd_same (H := H18) (a := p16) (o := .tup [.ref p15])
    generalize upd H18 p16 (.tup [.ref p15]) = H19 at *
    refine ⟨p16, 61, _, rfl, rfl, SqT.of g16, by decide, by decide, by show 1 ≤ 1000; decide, fun z => ?_, fun p17 n17 => ?_⟩
    · have z2 := congrArg List.length z
      rw [rep_one, List.length_replicate] at z2
      exact absurd z2 (by show ¬ (61 = 1); decide)
    rw [rep_one, show Int.toNat 61 = 61 from rfl]
    have s20 := same_upd (o := .tup (List.replicate 61 (V.ref p15))) n17
    have g17 := upd_same (H := H19) (a := p17) (o := .tup (List.replicate 61 (V.ref p15)))
    generalize upd H19 p17 (.tup (List.replicate 61 (V.ref p15))) = H20 at *
    refine ⟨by show 3 ≤ sizeLine; decide, fun p18 n18 => ?_⟩
    have s21 := same_upd (o := .tup [.str "run", .ref p17, .int 1]) n18
    have g18 := upd_same (H := H20) (a := p18) (o := .tup [.str "run", .ref p17, .int 1])
    generalize upd H20 p18 (.tup [.str "run", .ref p17, .int 1]) = H21 at *
    refine ⟨by show 2 ≤ sizeLine; decide, fun p19 n19 => ?_⟩
    have s22 := same_upd (o := .lst [.ref p14, .ref p18]) n19
    have g19 := upd_same (H := H21) (a := p19) (o := .lst [.ref p14, .ref p18])
    generalize upd H21 p19 (.lst [.ref p14, .ref p18]) = H22 at *
    have sA : Same H14 H22 := s15.trans (s16.trans (s17.trans (s18.trans (s19.trans (s20.trans (s21.trans s22))))))
    refine ⟨p11, p19, _, _, rfl, rfl, sA _ _ g11, g19, by show 10 ≤ sizeLine; decide, fun p20 n20 => ?_⟩
    have s23 := same_upd (o := .lst ([.ref p1, .ref p2, .ref p3, .ref p4, .non, .str "turn", .ref p7, .ref p10] ++ [.ref p14, .ref p18])) n20
    have g20 := upd_same (H := H22) (a := p20) (o := .lst ([.ref p1, .ref p2, .ref p3, .ref p4, .non, .str "turn", .ref p7, .ref p10] ++ [.ref p14, .ref p18]))
    generalize upd H22 p20 (.lst ([.ref p1, .ref p2, .ref p3, .ref p4, .non, .str "turn", .ref p7, .ref p10] ++ [.ref p14, .ref p18])) = H23 at *
    have sB : Same H14 H23 := sA.trans s23
    have sC : Same H10 H14 := s11.trans (s12.trans (s13.trans s14))
    have sD : Same H3 H10 := s4.trans (s5.trans (s6.trans (s7.trans (s8.trans (s9.trans s10)))))
    have sE : Same H3 H23 := sD.trans (sC.trans sB)
    have nhl : p6 ≠ h ∧ p6 ≠ l := by
      obtain ⟨xs, eh⟩ := N3.h1
      obtain ⟨ys, el⟩ := N3.l1
      have sF : Same H3 H8 := s4.trans (s5.trans (s6.trans (s7.trans s8)))
      exact ⟨(ne_of_none (sF _ _ eh) n6).symm, (ne_of_none (sF _ _ el) n6).symm⟩
    have odd : ∀ v ∈ ([.ref p1, .ref p2, .ref p3, .ref p4, .non, .str "turn", .ref p7, .ref p10] ++ [.ref p14, .ref p18] : List V), OddK K [h, l] H23 v := by
      have a1 : OddK K [h, l] H23 (.ref p1) := .inr (.inr (.inl ⟨p1, _, rfl, sB _ _ (sC _ _ ((s5.trans (s6.trans (s7.trans (s8.trans (s9.trans s10))))) _ _ g1)), .inr (.inl rfl)⟩))
      have a2 : OddK K [h, l] H23 (.ref p2) := .inr (.inr (.inl ⟨p2, _, rfl, sB _ _ (sC _ _ ((s6.trans (s7.trans (s8.trans (s9.trans s10)))) _ _ g2)), .inr (.inr (.inl rfl))⟩))
      have a3 : OddK K [h, l] H23 (.ref p3) := .inr (.inr (.inl ⟨p3, _, rfl, sB _ _ (sC _ _ ((s7.trans (s8.trans (s9.trans s10))) _ _ g3)), .inr (.inr (.inr ⟨1, rfl⟩))⟩))
      have a4 : OddK K [h, l] H23 (.ref p4) := .inr (.inr (.inl ⟨p4, _, rfl, sB _ _ (sC _ _ ((s8.trans (s9.trans s10)) _ _ g4)), .inl rfl⟩))
      have a7 : OddK K [h, l] H23 (.ref p7) := .inr (.inr (.inr ⟨p7, p6, _, 1, rfl, sB _ _ (sC _ _ g7), .inr ⟨fun z => (List.mem_cons.mp z).elim nhl.1 fun z => nhl.2 (List.mem_singleton.mp z), sB _ _ (sC _ _ (s10 _ _ g6))⟩⟩))
      have a10 : OddK K [h, l] H23 (.ref p10) := .inr (.inr (.inr ⟨p10, p9, _, 1, rfl, sB _ _ (s14 _ _ g10), .inl ⟨TupK.of (sB _ _ ((s13.trans s14) _ _ g9)), by show 1 ≤ 10000; decide, 0, by show 0 < 1; decide, by decide, (fun j z => absurd z (Nat.not_lt_zero _)), .inr ⟨_, rfl, p8, _, rfl, sB _ _ ((s12.trans (s13.trans s14)) _ _ g8), .green 1⟩⟩⟩))
      have a14 : OddK K [h, l] H23 (.ref p14) := .inr (.inr (.inr ⟨p14, p13, _, 1, rfl, (s18.trans (s19.trans (s20.trans (s21.trans (s22.trans s23))))) _ _ g14, .inl ⟨TupK.of ((s17.trans (s18.trans (s19.trans (s20.trans (s21.trans (s22.trans s23)))))) _ _ g13), by show 1 ≤ 10000; decide, 0, by show 0 < 1; decide, by decide, (fun j z => absurd z (Nat.not_lt_zero _)), .inr ⟨_, rfl, p12, _, rfl, (s16.trans (s17.trans (s18.trans (s19.trans (s20.trans (s21.trans (s22.trans s23))))))) _ _ g12, .num false (-1) (by decide)⟩⟩⟩))
      have a18 : OddK K [h, l] H23 (.ref p18) := .inr (.inr (.inr ⟨p18, p17, _, 1, rfl, (s22.trans s23) _ _ g18, .inl ⟨TupK.of ((s21.trans (s22.trans s23)) _ _ g17), by rw [List.length_replicate]; decide, 60, by rw [List.length_replicate]; decide, by decide, (fun j z => ⟨.ref p15, .turn, by rw [List.getElem?_replicate, if_pos (by omega)], ⟨p15, rfl, (s19.trans (s20.trans (s21.trans (s22.trans s23)))) _ _ g15⟩, trivial⟩), .inl rfl⟩⟩))
      intro v hv
      simp only [List.cons_append, List.nil_append, List.mem_cons, List.not_mem_nil, or_false] at hv
      rcases hv with rfl | rfl | rfl | rfl | rfl | rfl | rfl | rfl | rfl | rfl
      · exact a1
      · exact a2
      · exact a3
      · exact a4
      · exact .inl rfl
      · exact .inr (.inl ⟨_, rfl⟩)
      · exact a7
      · exact a10
      · exact a14
      · exact a18
    have ll : ([.ref p1, .ref p2, .ref p3, .ref p4, .non, .str "turn", .ref p7, .ref p10] ++ [.ref p14, .ref p18] : List V).length = 10 := rfl
    have nph : p20 ≠ h ∧ p20 ≠ l := by
      obtain ⟨xs, eh⟩ := N3.h1
      obtain ⟨ys, el⟩ := N3.l1
      have sF : Same H3 H22 := sD.trans (sC.trans sA)
      exact ⟨(ne_of_none (sF _ _ eh) n20).symm, (ne_of_none (sF _ _ el) n20).symm⟩
    generalize ([.ref p1, .ref p2, .ref p3, .ref p4, .non, .str "turn", .ref p7, .ref p10] ++ [.ref p14, .ref p18] : List V) = ods at *
    have N4 := N3.same sE
    have T4 := Tabs.ext T3 sE
    have hx4 := hx3.same sE
    have t4 := t3.same sE
    have o4 := o3.same sE
    have bx4 := bx3.trans (.of sE)
    clear s4 s5 s6 s7 s8 s9 s10 s11 s12 s13 s14 s15 s16 s17 s18 s19 s20 s21 s22 s23 g1 g2 g3 g4 g6 g7 g8 g9 g10 g11 g12 g13 g14 g15 g16 g17 g18 g19 sA sB sC sD sE n1 n2 n3 n4 n5 n6 n7 n8 n9 n10 n11 n12 n13 n14 n15 n16 n17 n18 n19 n20 nhl N3 T3 hx3 t3 o3 bx3
    refine ⟨_, rfl, _, rfl, h, l, 10, rfl, N4, by decide, by decide, fun i H24 i0 i1 N5 b5 => ?_⟩
    have g5 := b5 _ _ nph.1 nph.2 g20
    have T5 := tabs_but2 T4 b5 N4
    have hx5 := hx4.but2 b5 N4
    have ah : h ∈ [h, l] := List.mem_cons_self
    have al : l ∈ [h, l] := List.mem_cons_of_mem _ List.mem_cons_self
    have t5 := t4.butX (.of2 b5) N4 hx4.hx ah al
    have o5 := o4.fix ((ButX.of2 b5).fix N4 hx4.hx)
    have bx5 := bx4.trans (.of2 b5)
    obtain ⟨bd, hat, hod⟩ : ∃ bd, atI ods i = some bd ∧ OddK K [h, l] H24 bd := by
      have hi : i.toNat < ods.length := by omega
      exact ⟨ods[i.toNat], at_of (j := i.toNat) (by omega) (List.getElem?_eq_getElem hi), (odd _ (List.getElem_mem hi)).butX (.of2 b5) N4 hx4.hx ah al⟩
    refine ⟨p20, _, i, bd, rfl, rfl, SqL.of g5, hat, ?_⟩
    clear odd ll nph g20 N4 T4 hx4 t4 o4 bx4 b5 hat
    refine grp_two KO KE KF rfl rfl rfl hx5 N5 T5 c00 c01 r0 r1 o5 fe cn (.inl ⟨hod, rfl⟩) fun pf H25 b6 N6 T6 hx6 g6 => ?_
    have t6 := t5.butX b6 N5 hx5.hx ah al
    have o6 := o5.fix (b6.fix N5 hx5.hx)
    have hod6 := hod.butX b6 N5 hx5.hx ah al
    have bx6 := bx5.trans b6
    clear N5 T5 hx5 t5 o5 hod bx5 b6
    refine ⟨by show 2 ≤ sizeLine; decide, fun q2 hq2 => ?_⟩
    have s7 := same_upd (o := .tup [.str "operation", .int 1]) hq2
    have g7 := upd_same (H := H25) (a := q2) (o := .tup [.str "operation", .int 1])
    generalize upd H25 q2 (.tup [.str "operation", .int 1]) = H26 at *
    refine ⟨.tuple [.str "operation", .int 1], .tuple [.str "operation", .int 1], .tup (SqT.of (s7 _ _ g6)) (.cons (.str _) (.cons (.int _) .nil)), .tup (SqT.of g7) (.cons (.str _) (.cons (.int _) .nil)), by decide +kernel, by decide +kernel, _, rfl, ifF (by decide +kernel) ?_⟩
    refine told_ne (j := 3) rfl rfl (hx6.same s7) hl0 (t6.same s7) fun H27 s8 => iteF ?_
    have s9 := s7.trans s8
    have N7 := N6.same s9
    have T7 := Tabs.ext T6 s9
    have hx7 := hx6.same s9
    have t7 := t6.same s9
    have o7 := o6.same s9
    have hod7 := hod6.same s9
    have bx7 := bx6.trans (.of s9)
    clear N6 T6 hx6 t6 o6 hod6 bx6 s7 s8 s9 g6 g7 hq2
    refine ⟨_, rfl, _, _, rfl, rfl, by show 3 ≤ sizeLine; decide, fun q3 hq3 => ?_⟩
    have s10 := same_upd (o := .tup [.str "meet", .str "red", .int (c0 + 1)]) hq3
    have g10 := upd_same (H := H27) (a := q3) (o := .tup [.str "meet", .str "red", .int (c0 + 1)])
    generalize upd H27 q3 (.tup [.str "meet", .str "red", .int (c0 + 1)]) = H28 at *
    refine grp_two KO KE KF rfl rfl rfl (hx7.same s10) (N7.same s10) (Tabs.ext T7 s10) c00 c01 r0 r1 (o7.same s10) fe cn (.inr (.inl ⟨⟨q3, rfl, TupK.of g10⟩, rfl⟩)) fun pf2 H29 b11 N11 T11 hx11 g11 => ?_
    have t11 := (t7.same s10).butX b11 (N7.same s10) (hx7.same s10).hx ah al
    have o11 := (o7.same s10).fix (b11.fix (N7.same s10) (hx7.same s10).hx)
    have hod11 := (hod7.same s10).butX b11 (N7.same s10) (hx7.same s10).hx ah al
    have bx11 := (bx7.trans (.of s10)).trans b11
    clear N7 T7 hx7 t7 o7 hod7 bx7 s10 g10 hq3 b11
    refine ⟨by show 1 ≤ sizeLine; decide, fun q4 hq4 => ?_⟩
    have s12 := same_upd (o := .tup [.str "enough"]) hq4
    have g12 := upd_same (H := H29) (a := q4) (o := .tup [.str "enough"])
    generalize upd H29 q4 (.tup [.str "enough"]) = H30 at *
    refine ⟨.tuple [.str "enough"], .tuple [.str "enough"], .tup (SqT.of (s12 _ _ g11)) (.cons (.str _) .nil), .tup (SqT.of g12) (.cons (.str _) .nil), by decide +kernel, by decide +kernel, _, rfl, ifF (by decide +kernel) ?_⟩
    refine told_ne (j := 3) rfl rfl (hx11.same s12) hl0 (t11.same s12) fun H31 s13 => iteF ?_
    have s14 := s12.trans s13
    have N14 := N11.same s14
    have T14 := Tabs.ext T11 s14
    have hx14 := hx11.same s14
    have t14 := t11.same s14
    have o14 := o11.same s14
    have hod14 := hod11.same s14
    have bx14 := bx11.trans (.of s14)
    clear N11 T11 hx11 t11 o11 hod11 bx11 s12 s13 s14 g11 g12 hq4
    refine ⟨by show 1 ≤ sizeLine; decide, fun u1 hu1 => ⟨_, rfl, _, _, rfl, rfl, by show 2 ≤ sizeLine; decide, fun u2 hu2 => ⟨by show 2 ≤ sizeLine; decide, fun u3 hu3 => ⟨by show 3 ≤ sizeLine; decide, fun u4 hu4 => ?_⟩⟩⟩⟩
    have s15 := same_upd (o := .tup [.str "turn"]) hu1
    have g15 := upd_same (H := H31) (a := u1) (o := .tup [.str "turn"])
    dsimp only at hu2 hu3 hu4 ⊢
    generalize upd H31 u1 (.tup [.str "turn"]) = H32 at *
    have s16 := same_upd (o := .tup [.str "blue", .int (c0 + 1)]) hu2
    have g16 := upd_same (H := H32) (a := u2) (o := .tup [.str "blue", .int (c0 + 1)])
    generalize upd H32 u2 (.tup [.str "blue", .int (c0 + 1)]) = H33 at *
    have s17 := same_upd (o := .tup [.ref u1, .ref u2]) hu3
    have g17 := upd_same (H := H33) (a := u3) (o := .tup [.ref u1, .ref u2])
    generalize upd H33 u3 (.tup [.ref u1, .ref u2]) = H34 at *
    have s18 := same_upd (o := .tup [.str "run", .ref u3, .int 1]) hu4
    have g18 := upd_same (H := H34) (a := u4) (o := .tup [.str "run", .ref u3, .int 1])
    generalize upd H34 u4 (.tup [.str "run", .ref u3, .int 1]) = H35 at *
    have s19 := s15.trans (s16.trans (s17.trans s18))
    have few : OpAt K H35 (.ref u4) (.run [.turn, .meet false (c0 + 1)] 1) := ⟨u4, u3, _, rfl, TupK.of g18, TupK.of (s18 _ _ g17), .cons ⟨u1, rfl, (s16.trans (s17.trans s18)) _ _ g15⟩ (.cons ⟨u2, rfl, (s17.trans s18) _ _ g16⟩ .nil)⟩
    have N19 := N14.same s19
    have T19 := Tabs.ext T14 s19
    have hx19 := hx14.same s19
    have t19 := t14.same s19
    have o19 := o14.same s19
    have hod19 := hod14.same s19
    have bx19 := bx14.trans (.of s19)
    clear N14 T14 hx14 t14 o14 hod14 bx14 s15 s16 s17 s18 s19 g15 g16 g17 g18 hu1 hu2 hu3 hu4
    refine grp_three KO rfl rfl rfl hx19 N19 T19 c00 c01 r0 r1 few hod19 (fun pf3 H36 b20 N20 T20 hx20 g20 => ?_)
    have t20 := t19.butX b20 N19 hx19.hx ah al
    have o20 := o19.fix (b20.fix N19 hx19.hx)
    have few20 := few.fix (b20.fix N19 hx19.hx)
    have bx20 := bx19.trans b20
    clear N19 T19 hx19 t19 o19 hod19 bx19 b20 few
    refine ⟨pf3, _, 0, _, rfl, rfl, SqT.of g20, at_of (j := 0) rfl rfl, rfl, _, rfl, ifF (by decide +kernel) ?_⟩
    refine grp_two KO KE KF rfl rfl rfl hx20 N20 T20 c00 c01 r0 r1 o20 fe cn (.inr (.inr ⟨few20, rfl⟩)) fun pf4 H37 b21 N21 T21 hx21 g21 => ?_
    have t21 := t20.butX b21 N20 hx20.hx ah al
    have bx21 := bx20.trans b21
    clear N20 T20 hx20 t20 o20 few20 bx20 b21 g20
    refine ⟨by show 2 ≤ sizeLine; decide, fun q5 hq5 => ?_⟩
    have s22 := same_upd (o := .tup [.str "few", .int 1]) hq5
    have g22 := upd_same (H := H37) (a := q5) (o := .tup [.str "few", .int 1])
    generalize upd H37 q5 (.tup [.str "few", .int 1]) = H38 at *
    refine ⟨.tuple [.str "few", .int 1], .tuple [.str "few", .int 1], .tup (SqT.of (s22 _ _ g21)) (.cons (.str _) (.cons (.int _) .nil)), .tup (SqT.of g22) (.cons (.str _) (.cons (.int _) .nil)), by decide +kernel, by decide +kernel, _, rfl, ifF (by decide +kernel) ?_⟩
    refine told_eq (j := 3) rfl rfl (hx21.same s22) hl0 (t21.same s22) fun H39 s23 => ?_
    have s24 := s22.trans s23
    exact k H39 (bx21.trans (.of s24)) (N21.same s24) (Tabs.ext T21 s24) (hx21.same s24)
end
end Cc

set_option maxHeartbeats 8000000
/-! What the law of operations reverted asks of houses, told over all their moments. -/
namespace Cc
open PySem PySem.Spec PyProof.Rows L2
open LamX
abbrev spReplay (K : PySem.W.Frag) (CH CM : Addr) : Sp := fun vs H Q E => ∃ ws rest, vs = ws ++ rest ∧ ws.length = 3 ∧ rest.length ≤ sizeLine ∧ ∀ p, H p = Option.none → spReplayT K CH CM (ws ++ [V.ref p]) (upd H p (.tup rest)) Q E
section
variable {K : PySem.W.Frag} {CH CM CE CT CO TU : Addr} {TT : List (Addr × Str)} {h l x a0 : Addr} {c s : Int} {L R : List Mo} {H : Hp} {Q : VK} {E : XK}
theorem app_one {v : V} {en : Ent} (hx : HouL K CH CM H c s x a0 L R) (c0 : 0 ≤ c) (c1 : c ≤ 1000000000000000000) (r0 : 0 ≤ (posE c s (ens L)).1) (r1 : (posE c s (ens L)).1 ≤ c) (ho : OpAt K H v en) (hf : formE en) (hc : canE c en)
    (k : ∀ q z H', z.en = en → But x H H' → HouL K CH CM H' c s x a0 (z :: L) [] → Q (.ref q) H') : spApply K CH CM CE CT CO [.ref x, v] H Q E := by
  obtain ⟨m, op, e, rv, hh, hm, hr, _, _⟩ := hx.is
  refine ⟨[.ref x], [v], rfl, rfl, by show 1 ≤ sizeLine; decide, fun p hp => ?_⟩
  have s2 := same_upd (o := .tup [v]) hp
  have g2 := upd_same (H := H) (a := p) (o := .tup [v])
  generalize upd H p (.tup [v]) = H2 at *
  have hx2 := (hx.same s2).hx
  exact ⟨x, p, m, c, _, _, _, op, e, rv, [v], rfl, g2, hh.same s2, c0, c1, r0, r1, .inr (.inl ⟨v, en, rfl, ho.same s2, hf, hc, fun q m' op' H' b' o' h' eq => k q ⟨m', op', en⟩ H' rfl ((But.of s2).trans b')
    ⟨m', .non, h'.at_, ⟨rfl, o', .ref m, h'.mo, (hm.keep (.of s2) (.of s2)).keep (.but b' hx2) (.but b' hx2)⟩, rfl⟩⟩)⟩
theorem undo_one {z : Mo} (hx : HouL K CH CM H c s x a0 (z :: L) R) (k : ∀ H', But x H H' → HouL K CH CM H' c s x a0 L (z :: R) → Q (.bl true) H') : spUndo CH CM [.ref x] H Q E := by
  have hx0 := hx.hx
  obtain ⟨m, rv, ha, ⟨em, ho, e, mo, hm⟩, hr⟩ := hx
  injection em with em
  subst em
  have key : ∀ m2 op2 r2 mv2 t2 e2, e = .ref m2 → MomAt CM H m2 op2 r2 mv2 t2 e2 → spUndo CH CM [.ref x] H Q E := fun m2 op2 r2 mv2 t2 e2 ee mo2 =>
    ⟨x, z.a, c, _, _, _, _, e, rv, rfl, ⟨ha, mo⟩, .inr ⟨m2, op2, r2, mv2, t2, e2, ee, mo2, fun tq H' b' et h' => k H' b' (by
      subst ee
      obtain ⟨dz, mz⟩ := mo
      exact ⟨m2, .ref tq, h'.at_, hm.keep (.but b' hx0) (.but b' hx0), tq, rv, rfl, et, ho.fix (.but b' hx0), ⟨dz, MKeep.but b' hx0 _ _ _ _ _ _ _ mz⟩, hr.keep (.but b' hx0) (.but b' hx0)⟩)⟩⟩
  cases L with
  | nil => exact key a0 _ _ _ _ _ hm.1 hm.2
  | cons y r => exact let ⟨e1, _, w, mo2, _⟩ := hm; key y.a _ _ _ _ _ e1 mo2
theorem undo_none (hx : HouL K CH CM H c s x a0 [] R) (k : Q (.bl false) H) : spUndo CH CM [.ref x] H Q E := by
  obtain ⟨m, op, e, rv, hh, hm, hr, he, _⟩ := hx.is
  exact ⟨x, m, c, _, _, _, op, e, rv, rfl, hh, .inl ⟨he rfl, k⟩⟩
theorem redo_one {z : Mo} (hx : HouL K CH CM H c s x a0 L (z :: R)) (k : ∀ H', But x H H' → HouL K CH CM H' c s x a0 (z :: L) R → Q (.bl true) H') : spRedo CH CM [.ref x] H Q E := by
  have hx0 := hx.hx
  obtain ⟨m, op, e, rv, hh, hm, ⟨tq, rv2, erv, etq, ho, ⟨dz, mz⟩, hr⟩, _, _⟩ := hx.is
  exact ⟨x, m, c, _, _, _, op, e, rv, rfl, hh, .inr ⟨tq, z.a, z.op, _, _, _, _, rv2, erv, etq, ⟨dz, mz⟩, fun H' b' h' => k H' b' ⟨z.a, rv2, h'.at_, ⟨rfl, ho.fix (.but b' hx0), .ref m, ⟨dz, MKeep.but b' hx0 _ _ _ _ _ _ _ mz⟩, hm.keep (.but b' hx0) (.but b' hx0)⟩, hr.keep (.but b' hx0) (.but b' hx0)⟩⟩⟩
theorem redo_none (hx : HouL K CH CM H c s x a0 L []) (k : Q (.bl false) H) : spRedo CH CM [.ref x] H Q E := by
  obtain ⟨m, op, e, rv, hh, hm, hr, he, _⟩ := hx.is
  exact ⟨x, m, c, _, _, _, op, e, rv, rfl, hh, .inl ⟨hr, k⟩⟩
theorem turn_one (ht : ∀ H, SqT K H TU [.str "turn"]) (hx : HouL K CH CM H c s x a0 L R) (k : ∀ z H', z.en = .turn → But x H H' → HouL K CH CM H' c s x a0 (z :: L) [] → Q .non H') : spTurn CH CM TU [.ref x] H Q E := by
  have hx0 := hx.hx
  obtain ⟨m, op, e, rv, hh, hm, hr, he, _⟩ := hx.is
  exact ⟨x, m, c, _, _, _, op, e, rv, rfl, hh, fun m' H' b' h' => k ⟨m', .ref TU, .turn⟩ H' rfl b' ⟨m', .non, h'.at_, ⟨rfl, ⟨TU, rfl, fun H' _ => ht H'⟩, .ref m, h'.mo, hm.keep (.but b' hx0) (.but b' hx0)⟩, rfl⟩⟩
theorem hist_one (hx : HouL K CH CM H c s x a0 L R) (hl : L.length ≤ 800) (k : ∀ q H', Same H H' → H' q = some (.lst (L.map (·.op)).reverse) → Q (.ref q) H') : spHistO CH CM [.ref x] H Q E := by
  obtain ⟨m, op, e, rv, hh, hm, hr, _, _⟩ := hx.is
  refine ⟨x, m, c, _, _, _, op, e, rv, asE a0 L, psE c s L, rfl, hh, hm.chain, by unfold asE; rw [List.length_append, List.length_map]; show L.length + 1 ≤ 900; omega, fun q H' s1 e1 nq => k q H' s1 ?_⟩
  rw [psE_ops] at e1
  exact e1
theorem replay_none (c0 : 0 ≤ c) (c1 : c ≤ 1000000000000000000) (s0 : 0 ≤ s) (s1 : s ≤ c) (k : ∀ y b0 H', Same H H' → H y = none → HouL K CH CM H' c s y b0 [] [] → Q (.ref y) H') : spReplay K CH CM [.ref CH, .int c, .int s] H Q E := by
  refine ⟨[.ref CH, .int c, .int s], [], rfl, rfl, by show 0 ≤ sizeLine; decide, fun p hp => ⟨p, c, s, [], rfl, upd_same, c0, c1, s0, s1, .inl ⟨rfl, fun y m H' hy s2 h' => ?_⟩⟩⟩
  have s3 := (same_upd (o := .tup []) hp).trans s2
  exact k y m H' s3 (same_none (same_upd hp) hy) ⟨m, .non, h'.at_, ⟨rfl, h'.mo⟩, rfl⟩
theorem replay_one {v : V} {en : Ent} (c0 : 0 ≤ c) (c1 : c ≤ 1000000000000000000) (s0 : 0 ≤ s) (s1 : s ≤ c) (ho : OpAt K H v en) (hf : formE en) (hc : canE c en) (k : ∀ y b0 z H', z.en = en → Same H H' → HouL K CH CM H' c s y b0 [z] [] → Q (.ref y) H') : spReplay K CH CM [.ref CH, .int c, .int s, v] H Q E := by
  refine ⟨[.ref CH, .int c, .int s], [v], rfl, rfl, by show 1 ≤ sizeLine; decide, fun p hp => ?_⟩
  have s2 := same_upd (o := .tup [v]) hp
  refine ⟨p, c, s, [v], rfl, upd_same, c0, c1, s0, s1, .inr ⟨v, en, rfl, ho.same s2, hf, hc, fun y m m' op' H' hy s3 mo o' h' => ?_⟩⟩
  exact k y m ⟨m', op', en⟩ H' rfl (s2.trans s3) ⟨m', .non, h'.at_, ⟨rfl, o', .ref m, h'.mo, rfl, mo⟩, rfl⟩
/-- what has been seen: the tellings after so many operations -/
def SeenAt (K : PySem.W.Frag) (h l : Addr) (H : Hp) (sn : Addr) (c s : Int) (E : List Ent) : Prop := ∃ vs, H sn = some (.lst vs) ∧ vs.length = E.length + 1 ∧ ∀ k v, vs[k]? = some v → ToldV K [sn, h, l] H c s (E.drop (E.length - k)) v
theorem SeenAt.same {H1 : Hp} {sn : Addr} {es : List Ent} (g : SeenAt K h l H sn c s es) (k : Same H H1) : SeenAt K h l H1 sn c s es :=
  let ⟨vs, a, b, d⟩ := g
  ⟨vs, k _ _ a, b, fun i v e => (d i v e).same k⟩
theorem SeenAt.butX {H1 : Hp} {sn y : Addr} {es : List Ent} (g : SeenAt K h l H sn c s es) (b : ButX h l y H H1) (n : NextAt H h l) (hy : ∃ dx c p rv, H y = some (.ins CH dx (houL c p rv))) (n1 : sn ≠ h) (n2 : sn ≠ l) : SeenAt K h l H1 sn c s es := by
  obtain ⟨vs, a, e, d⟩ := g
  have hy' := hy
  obtain ⟨_, _, _, _, q⟩ := hy'
  exact ⟨vs, b _ _ n1 n2 (ne_of a q fun z => nomatch z) a (fun _ z => nomatch z), e, fun i v w => (d i v w).butX b n hy (List.mem_cons_of_mem _ List.mem_cons_self) (List.mem_cons_of_mem _ (List.mem_cons_of_mem _ List.mem_cons_self))⟩
theorem SeenAt.grow {sn : Addr} {es : List Ent} {e : Ent} {v : V} (g : SeenAt K h l H sn c s es) (t : ToldV K [sn, h, l] H c s (e :: es) v) : ∃ vs, H sn = some (.lst vs) ∧ vs.length = es.length + 1 ∧ SeenAt K h l (upd H sn (.lst (vs ++ [v]))) sn c s (e :: es) := by
  obtain ⟨vs, a, le, d⟩ := g
  refine ⟨vs, a, le, vs ++ [v], upd_same, by rw [List.length_append, le]; rfl, fun k u hu => ?_⟩
  have kp : ∀ {es' : List Ent} {u : V}, ToldV K [sn, h, l] H c s es' u → ToldV K [sn, h, l] (upd H sn (.lst (vs ++ [v]))) c s es' u := fun w => w.keep (fix_updL a) fun b xs nb eb => by
    have nbs : b ≠ sn := fun z => nb (by rw [z]; exact List.mem_cons_self)
    rw [upd_ne nbs]
    exact eb
  by_cases hk : k < vs.length
  · rw [List.getElem?_append_left hk] at hu
    have := kp (d k u hu)
    rw [List.length_cons, show es.length + 1 - k = (es.length - k) + 1 by omega, List.drop_succ_cons]
    exact this
  · rw [List.getElem?_append_right (by omega)] at hu
    have hk2 : k - vs.length = 0 := by
      have := (List.getElem?_eq_some_iff.mp hu).1
      rw [List.length_singleton] at this
      omega
    rw [hk2] at hu
    have eu : v = u := Option.some.inj hu
    subst eu
    rw [List.length_cons, show es.length + 1 - k = 0 by omega]
    exact kp t
theorem SeenAt.get {sn : Addr} {es : List Ent} (g : SeenAt K h l H sn c s es) {k : Nat} (hk : k ≤ es.length) : ∃ vs v, H sn = some (.lst vs) ∧ vs.length = es.length + 1 ∧ vs[k]? = some v ∧ ToldV K [sn, h, l] H c s (es.drop (es.length - k)) v := by
  obtain ⟨vs, a, le, d⟩ := g
  have hv := List.getElem?_eq_getElem (l := vs) (i := k) (by omega)
  exact ⟨vs, _, a, le, hv, d k _ hv⟩
end
section
variable {K : PySem.W.Frag} {CH CM : Addr} {h l x a0 : Addr} {c s : Int} {L R : List Mo} {H : Hp} {σ : L2.St} {i j k2 : Nat}
/-- told now, and seen before -/
theorem told_two {sn : Addr} {es : List Ent} {n : Nat} {Q : VK} {E : XK} (hx : HouL K CH CM H c s x a0 L R) (hl : L.length ≤ 800) (g : SeenAt K h l H sn c s es) (hn : n ≤ es.length) (he : ens L = es.drop (es.length - n)) (k : ∀ v vs u H', Same H H' → ToldV K [] H' c s (ens L) v → H' sn = some (.lst vs) → vs[n]? = some u → ToldV K [sn, h, l] H' c s (ens L) u → Q v H') : spTold CH CM [.ref x] H Q E :=
  told_one (A := []) hx hl (fun a ha => nomatch ha) fun v H1 s1 t1 => by
    obtain ⟨vs, u, e1, le, eu, tu⟩ := (g.same s1).get hn
    rw [← he] at tu
    exact k v vs u H1 s1 t1 e1 eu tu
end
end Cc

namespace Cc
open PySem PySem.Spec PyProof.Rows L2
/-- the nine classes of errors, asked of InvalidNumber -/
structure KindN (K : PySem.W.Frag) (mg : Str → Option Value) (eDa eDe eBo eNu eOp ePl eTe eEn eFe : Addr) : Prop where
  ec : ExcC K eNu
  t0 : mg "DaybookError" = some (.ref eDa)
  t1 : mg "DecodeError" = some (.ref eDe)
  t2 : mg "InvalidBooking" = some (.ref eBo)
  t3 : mg "InvalidNumber" = some (.ref eNu)
  t4 : mg "InvalidOperation" = some (.ref eOp)
  t5 : mg "InvalidPlan" = some (.ref ePl)
  t6 : mg "InvalidText" = some (.ref eTe)
  t7 : mg "NotEnough" = some (.ref eEn)
  t8 : mg "TooFewChairs" = some (.ref eFe)
  k0 : PySem.W.kitOne K (.ref eNu) (.ref eDa) = some false
  k1 : PySem.W.kitOne K (.ref eNu) (.ref eDe) = some false
  k2 : PySem.W.kitOne K (.ref eNu) (.ref eBo) = some false
  k3 : PySem.W.kitOne K (.ref eNu) (.ref eNu) = some true
  k4 : PySem.W.kitOne K (.ref eNu) (.ref eOp) = some false
  k5 : PySem.W.kitOne K (.ref eNu) (.ref ePl) = some false
  k6 : PySem.W.kitOne K (.ref eNu) (.ref eTe) = some false
  k7 : PySem.W.kitOne K (.ref eNu) (.ref eEn) = some false
  k8 : PySem.W.kitOne K (.ref eNu) (.ref eFe) = some false
  kv : PySem.W.kitOne K (.ref eNu) (.type "ValueError") = some true
end Cc

namespace Cc
open PySem PySem.Spec PyProof.Rows L2
theorem sub_ne {K : PySem.W.Frag} {A B : Addr} (s : PySem.W.subIn K (.ref A) (.ref A) = some true) (h : PySem.W.subIn K (.ref A) (.ref B) = some false) : (Value.ref A == Value.ref B) = false := by
  refine Bool.eq_false_iff.mpr fun q => ?_; have e : A = B := Value.ref.inj (beq_iff_eq.mp q)
  subst e
  rw [s] at h
  cases h
theorem kit_noB {K : PySem.W.Frag} {A B : Addr} (s : PySem.W.subIn K (.ref A) (.ref A) = some true) (i : PySem.W.isClsIn K B = true) (t : PySem.W.typeIn K (.ref B) = some (.type "type")) (h : PySem.W.subIn K (.ref A) (.ref B) = some false) : PySem.W.kitOne K (.ref A) (.ref B) = some false :=
  kit_ref i t h fun _ => sub_ne s h
theorem kit_ve {K : PySem.W.Frag} {D : Addr} (h : PySem.W.subIn K (.ref D) (.type "ValueError") = some true) : PySem.W.kitOne K (.ref D) (.type "ValueError") = some true := by
  unfold PySem.W.kitOne
  rw [if_neg (by simp)]
  show (if PySem.W.kitMeta "ValueError" = true then _ else none) = _
  rw [if_pos (by decide +kernel)]
  exact h
theorem kbn_red {K : PySem.W.Frag} {x qual : Str} {params : Arguments} {body : List Stmt} {scope : Scope} {kV doc pm cdv ct : Value} {an : Option Addr} (h : ∀ (s : Shared) (a b z : Value), BindsTo s (PySem.W.fnOf x qual params body scope .none kV doc pm an cdv ct) ⟨[a, b], [("red", z)]⟩ [("self", a), ("chairs", b), ("red", z)]) :
    KBn K (PySem.W.fnOf x qual params body scope .none kV doc pm an cdv ct) ["self", "chairs", "red"] 2 ["red"] (fun us ws => us ++ ws) (fun vs zs => vs ++ zs) :=
  ⟨fun s us ws _ l1 l2 => match us, ws, l1, l2 with | [a, b], [z], _, _ => h s a b z, fun r1 r2 => r1.append r2⟩
end Cc

set_option maxHeartbeats 16000000
/-! The law of operations reverted. -/
namespace Cc
open PySem PySem.Spec PyProof.Rows L2
open LamX
def spLawTs (K : PySem.W.Frag) (Ts : List Addr) : Sp := fun vs H Q _ => ∃ (a : Addr) (ns : List Int), vs = [.ref a] ∧ SqF K H a (ns.map V.int) ∧ ns.length ≤ 63 ∧ (∀ T ∈ Ts, H T = some (.tbl #[])) ∧ ∀ H', Q (.bl true) H'
def spLawTt (K : PySem.W.Frag) (TT : List (Addr × Str)) : Sp := fun vs H Q _ => ∃ (a : Addr) (ns : List Int), vs = [.ref a] ∧ SqF K H a (ns.map V.int) ∧ ns.length ≤ 63 ∧ Tabs TT H ∧ ∀ H', Q (.bl true) H'
theorem flags_operation : Flags false false false false true false false false false 4 "operation" := ⟨by decide +kernel, by decide +kernel, by decide +kernel, rfl, fun m z hm hz => by
  match m, hm with
  | 0, _ => cases hz; decide +kernel
  | 1, _ => cases hz; decide +kernel
  | 2, _ => cases hz; decide +kernel
  | 3, _ => cases hz; decide +kernel, rfl⟩
theorem at_lastN {vs : List V} {n : Nat} {u : V} (l : vs.length = n + 1) (e : vs[n]? = some u) : atI vs (-1) = some u := by
  have h : vs = vs.take n ++ [u] := by
    have h2 := take_more e
    rw [List.take_of_length_le (by omega)] at h2
    exact h2
  rw [h]
  exact atI_last _ _
theorem sm_scal' {K : PySem.W.Frag} {H : Hp} {b d : Bool} (h : d = b) (n : Nat) : SmD K H n (.bl b) (.bl d) := h ▸ sm_scal (.inr (.inr (.inl ⟨_, rfl⟩))) n
section
variable {P : Program} {w : World} {K : PySem.W.Frag} {mg : Str → Option Value} {base : Heap} {C CH CM TU pS gS : Addr} {fdN : FuncData} {mc mcH : Value} {TT : List (Addr × Str)}
abbrev s_law : Stmt := top 46
abbrev n_law : List Str := ["_law_script", "_law_h", "_law_chairs", "_law_start", "_law_house", "_law_seen", "_law_time", "_law_many", "_law_back", "_law_k", "_law_left", "_law_twin", "_law_deed_here", "_law_first"]
theorem sc_law : FnScope n_law ["_law_script"] (defScope s_law) := ⟨rfl, rfl, rfl, by decide +kernel, rfl, by decide +kernel, by decide +kernel⟩
theorem ok_law {f f__law_mix f__law_next f__law_told f__law_alike f__law_group_right f__law_deed fHI pH gH fUn fRe fTu fAp pRp fRp CE CT CO : Addr} {fd : FuncData} (F : Fun K "law" "law" s_law f fd) (T : Txt K mg C TU pS gS mc) (D__law_mix : Dn P w K mg base 1 "_law_mix" f__law_mix (spMix K)) (D__law_next : Dn P w K mg base 1 "_law_next" f__law_next spNext) (D__law_told : Dn P w K mg base 6 "_law_told" f__law_told (spTold CH CM)) (D__law_alike : Dn P w K mg base 6 "_law_alike" f__law_alike (spAlike K 5)) (D__law_group_right : Dn P w K mg base 12 "_law_group_right" f__law_group_right (spGroup K CH CM TT)) (D__law_deed : Dn P w K mg base 8 "_law_deed" f__law_deed (spDeed4 K)) (OH : HTxt K CH) (MH : Mk K CH fHI) (GHI : FnOk P w K mg base CX0 3 fHI fdN ["self", "chairs", "red"] (spHouInit CH CM)) (gHo : mg "House" = some (.ref CH)) (hbH : KBn K fdN ["self", "chairs", "red"] 2 ["red"] (fun us ws => us ++ ws) (fun vs zs => vs ++ zs)) (PH : PropOf K CH "history" pH gH) (OHi : FnOk P w K mg base CX0 2 gH fdH ["self"] (spHistO CH CM)) (bH : Binds K fdH ["self"] []) (MUn : Meth K CH "undo" fUn) (GUn : FnR P w K mg base CX0 1 fUn (spUndo CH CM)) (MRe : Meth K CH "redo" fRe) (GRe : FnR P w K mg base CX0 1 fRe (spRedo CH CM)) (MTu : Meth K CH "turn" fTu) (GTu : FnR P w K mg base CX0 4 fTu (spTurn CH CM TU)) (MAp : Meth K CH "apply" fAp) (GAp : FnR P w K mg base (L2.CX P w) 9 fAp (spApply K CH CM CE CT CO)) (RpH : ClX.CRead K CH mcH) (RpC : ClX.CMet K CH mcH "replay" pRp fRp) (GRp : FnR P w K mg base CX0 11 fRp (spReplay K CH CM)) : FnOk P w K mg base CX0 13 f fd ["_law_script"] (spLawTt K TT) := by
  refine F.ok sc_law (fun vs H Q E h => ?_) (fun cdv A outer s H vs Q E hr h => ?_)
  · obtain ⟨a, ns, rfl, _⟩ := h
    rfl
  · obtain ⟨a, ns, rfl, hF, hlen, tb0, k⟩ := h
    refine ⟨_, pss_cons (ps_set (i := 1) sc_law.nd rfl (.inl rfl) (pe_callR D__law_mix.ok (hr.mono (by decide)) rfl D__law_mix.at_ D__law_mix.kp pass0 (pa_cons (pv 0) (pa_cons pe_int pa_nil))))
      (pss_cons (ps_set (i := 2) sc_law.nd rfl (.inl rfl) (pe_callR D__law_next.ok (hr.mono (by decide)) rfl D__law_next.at_ D__law_next.kp pass0 (pa_cons (pv 1) (pa_cons (pe_ix ix_list (pe_lst (pa_cons pe_int (pa_cons (pe_op op_pow pe_int pe_int) pa_nil))) (pe_callR D__law_next.ok (hr.mono (by decide)) rfl D__law_next.at_ D__law_next.kp pass0 (pa_cons (pv 1) (pa_cons pe_int pa_nil))) (fun _ _ => rfl)) pa_nil))))
      (pss_cons (ps_set (i := 3) sc_law.nd rfl (.inl rfl) (pe_callR D__law_next.ok (hr.mono (by decide)) rfl D__law_next.at_ D__law_next.kp pass0 (pa_cons (pv 1) (pa_cons (pe_op op_add (pv 2) pe_int) pa_nil))))
      (pss_cons (ps_set (i := 4) sc_law.nd rfl (.inl rfl) (pe_makeK MH GHI (hr.mono (by decide)) rfl gHo hbH pass0 (pa_cons (pv 2) pa_nil) (pk_cons (pv 3) pk_nil)))
      (pss_cons (ps_set (i := 5) sc_law.nd rfl (.inl rfl) (pe_lst (pa_cons (pe_callR D__law_told.ok (hr.mono (by decide)) rfl D__law_told.at_ D__law_told.kp pass0 (pa_cons (pv 4) pa_nil)) pa_nil)))
      (pss_cons (ps_for PassesOwn.never rfl (pi_range1 rfl T.b.range (pa_cons (pe_op op_add pe_int (pe_callR D__law_next.ok (hr.mono (by decide)) rfl D__law_next.at_ D__law_next.kp pass0 (pa_cons (pv 1) (pa_cons pe_int pa_nil)))) pa_nil)) (pg_name (i := 6) sc_law.nd rfl (.inl rfl))
        (pss_cons (ps_expr (pe_methR (E := E0) (pv 4) OH.cl MAp GAp (hr.mono (by decide)) passL (pa_cons (pe_callR D__law_deed.ok (hr.mono (by decide)) rfl D__law_deed.at_ D__law_deed.kp pass0 (pa_cons (pv 1) (pa_cons (pv 2) pa_nil))) pa_nil)))
        (pss_one (ps_expr (pe_bm PySem.F.plainAttrs_list PySem.F.slot_list_append PySem.F.type_list_append mt_append (pv 5) (pa_cons (pe_callR D__law_told.ok (hr.mono (by decide)) rfl D__law_told.at_ D__law_told.kp pass0 (pa_cons (pv 4) pa_nil)) pa_nil))))))
      (pss_cons (ps_set (i := 7) sc_law.nd rfl (.inl rfl) (pe_op op_sub (pe_callB call_len_seq (by rfl) T.b.len PySem.boot_len (pa_cons (pv 5) pa_nil)) pe_int))
      (pss_cons (ps_set (i := 8) sc_law.nd rfl (.inl rfl) (pe_callR D__law_next.ok (hr.mono (by decide)) rfl D__law_next.at_ D__law_next.kp pass0 (pa_cons (pv 1) (pa_cons (pe_op op_add (pv 7) pe_int) pa_nil))))
      (pss_cons (ps_for PassesOwn.never rfl (pi_range1 rfl T.b.range (pa_cons (pv 8) pa_nil)) (pg_name (i := 9) sc_law.nd rfl (.inl rfl))
        (pss_one (ps_if (pt_not (pt_val (pe_callR D__law_alike.ok (hr.mono (by decide)) rfl D__law_alike.at_ D__law_alike.kp pass0 (pa_cons (pe_methR0 (pv 4) OH.cl MUn GUn (hr.mono (by decide)) pass0) (pa_cons (pe_cmpR op_lt (pv 9) (pv 7) (nomark _)) pa_nil)))))
          (pss_one (ps_ret pe_bl)) pss_nil)))
      (pss_cons (ps_set (i := 10) sc_law.nd rfl (.inl rfl) (pe_callB (call_max2 rfl) (by rfl) T.b.max (by decide +kernel) (pa_cons pe_int (pa_cons (pe_op op_sub (pv 7) (pv 8)) pa_nil))))
      (pss_cons (ps_if (PW.pt (pw_or (pt_not (pt_val (pe_callR D__law_alike.ok (hr.mono (by decide)) rfl D__law_alike.at_ D__law_alike.kp pass0 (pa_cons (pe_callR D__law_told.ok (hr.mono (by decide)) rfl D__law_told.at_ D__law_told.kp pass0 (pa_cons (pv 4) pa_nil)) (pa_cons (pe_ix ix_list (pv 5) (pv 10) (fun _ _ => rfl)) pa_nil))))) (pw_or1 (pt_not (pt_val (pe_callR D__law_group_right.ok (hr.mono (by decide)) rfl D__law_group_right.at_ D__law_group_right.kp pass0 (pa_cons (pv 1) (pa_cons (pv 4) (pa_cons (pv 2) pa_nil)))))))))
        (pss_one (ps_ret pe_bl)) pss_nil)
      (pss_cons (ps_if (pt_not (pt_val (pe_callR D__law_alike.ok (hr.mono (by decide)) rfl D__law_alike.at_ D__law_alike.kp pass0 (pa_cons (pe_methR0 (pv 4) OH.cl MRe GRe (hr.mono (by decide)) pass0) (pa_cons (pe_cmpR op_lt (pv 10) (pv 7) (nomark _)) pa_nil)))))
        (pss_one (ps_ret pe_bl)) pss_nil)
      (pss_cons (ps_set (i := 10) sc_law.nd rfl (.inl rfl) (pe_callB (call_min2 rfl) (by rfl) T.b.min (by decide +kernel) (pa_cons (pv 7) (pa_cons (pe_op op_add (pv 10) pe_int) pa_nil))))
      (pss_cons (ps_if (pt_not (pt_val (pe_callR D__law_alike.ok (hr.mono (by decide)) rfl D__law_alike.at_ D__law_alike.kp pass0 (pa_cons (pe_callR D__law_told.ok (hr.mono (by decide)) rfl D__law_told.at_ D__law_told.kp pass0 (pa_cons (pv 4) pa_nil)) (pa_cons (pe_ix ix_list (pv 5) (pv 10) (fun _ _ => rfl)) pa_nil)))))
        (pss_one (ps_ret pe_bl)) pss_nil)
      (pss_cons (ps_set (i := 11) sc_law.nd rfl (.inl rfl) (ClX.pe_cmeth (pe_glob (v := .ref CH) rfl gHo rfl) RpH RpC GRp (hr.mono (by decide)) pass0 (pa_cons (pv 2) (pa_cons (pv 3) pa_nil))))
      (pss_cons (ps_for PassesOwn.never rfl (pi_list (pe_prop (pv 4) OH.cl PH OHi (hr.mono (by decide)) bH .nil pass0 rfl)) (pg_name (i := 12) sc_law.nd rfl (.inl rfl))
        (pss_one (ps_expr (pe_methR (E := E0) (pv 11) OH.cl MAp GAp (hr.mono (by decide)) passL (pa_cons (pv 12) pa_nil)))))
      (pss_cons (ps_if (pt_cmpR (op_neD hr.units) (pe_callR D__law_told.ok (hr.mono (by decide)) rfl D__law_told.at_ D__law_told.kp pass0 (pa_cons (pv 11) pa_nil)) (pe_ix ix_list (pv 5) (pv 10) (fun _ _ => rfl)) (nomark _))
        (pss_one (ps_ret pe_bl)) pss_nil)
      (pss_cons (ps_expr (pe_methR0 (pv 4) OH.cl MTu GTu (hr.mono (by decide)) pass0))
      (pss_cons (ps_if (PW.pt (pw_or (pt_val (pe_methR0 (pv 4) OH.cl MRe GRe (hr.mono (by decide)) pass0)) (pw_or (pt_cmpR op_isnot_bl (pe_methR0 (pv 4) OH.cl MUn GUn (hr.mono (by decide)) pass0) pe_bl (nomark _)) (pw_or1 (pt_cmpR (op_neD hr.units) (pe_callR D__law_told.ok (hr.mono (by decide)) rfl D__law_told.at_ D__law_told.kp pass0 (pa_cons (pv 4) pa_nil)) (pe_ix ix_list (pv 5) (pv 10) (fun _ _ => rfl)) (nomark _))))))
        (pss_one (ps_ret pe_bl)) pss_nil)
      (pss_cons (ps_set (i := 13) sc_law.nd rfl (.inl rfl) (pe_ix ix_list (pe_ix ix_list (pe_ix ix_list (pv 5) (pe_un un_neg pe_int) (fun _ _ => rfl)) pe_int (fun _ _ => rfl)) pe_int (fun _ _ => rfl)))
      (pss_one (ps_ret (pe_cmpR (op_eqD hr.units) (pe_callR D__law_told.ok (hr.mono (by decide)) rfl D__law_told.at_ D__law_told.kp pass0 (pa_cons (ClX.pe_cmeth (pe_glob (v := .ref CH) rfl gHo rfl) RpH RpC GRp (hr.mono (by decide)) pass0 (pa_cons (pv 2) (pa_cons (pv 3) (pa_cons (pv 13) pa_nil)))) pa_nil)) (pe_ix ix_list (pv 5) pe_int (fun _ _ => rfl)) (nomark _))))))))))))))))))))))), ?_⟩
    refine ⟨_, rfl, a, ns, 44, rfl, hF, hlen, fun h l H1 _ _ s1 N1 => ?_⟩
    have T1 := Tabs.ext tb0 s1
    refine ⟨_, rfl, 10, 18, rfl, rfl, ⟨by decide, by decide, by decide⟩, by show 2 ≤ sizeLine; decide, fun q hq => ?_⟩
    have s2 := same_upd (H := H1) (o := .lst [.int 20, .int (10 ^ (18 : Int).toNat)]) hq
    have g2 := upd_same (H := H1) (a := q) (o := .lst [.int 20, .int (10 ^ (18 : Int).toNat)])
    have nqh : q ≠ h := let ⟨_, e⟩ := N1.h1; (ne_of_none e hq).symm
    have nql : q ≠ l := let ⟨_, e⟩ := N1.l1; (ne_of_none e hq).symm
    have N2 := N1.same s2
    have T2 := Tabs.ext T1 s2
    generalize upd H1 q (.lst [.int 20, .int (10 ^ (18 : Int).toNat)]) = H2 at *
    refine ⟨_, rfl, h, l, 2, rfl, N2, by decide, by decide, fun i H3 i0 i2 N3 b3 => ?_⟩
    have T3 := tabs_but2 T2 b3 N2
    obtain ⟨lim, hv, l0, l1⟩ : ∃ lim, atI [V.int 20, .int (10 ^ (18 : Int).toNat)] i = some (.int lim) ∧ 0 < lim ∧ lim ≤ 1000000000000000000 := by
      by_cases e : i = 0
      · exact ⟨20, by rw [e]; rfl, by decide, by decide⟩
      · have e : i = 1 := by omega
        exact ⟨10 ^ (18 : Int).toNat, by rw [e]; rfl, by decide, by decide⟩
    refine ⟨q, _, i, _, rfl, rfl, SqL.of (b3 _ _ nqh nql g2), hv, ?_⟩
    refine ⟨h, l, lim, rfl, N3, l0, by omega, fun c H4 c0 c1 N4 b4 => ?_⟩
    have T4 := tabs_but2 T3 b4 N3
    have c1' : c < 1000000000000000000 := by omega
    clear T1 T2 T3 b3 b4 g2 s2 s1 N1 N2 N3 hv l0 l1 hq
    refine ⟨_, rfl, _, rfl, _, _, rfl, rfl, h, l, c + 1, rfl, N4, by omega, by omega, fun s0 H5 r0 r1 N5 b5 => ?_⟩
    have T5 := tabs_but2 T4 b5 N4
    refine ⟨_, rfl, _, rfl, rfl, rfl, fun x dx hx hdx ne => ⟨x, dx, c, s0, rfl, upd_same, c0, by omega, r0, by omega, fun a0 H6 b6 hh6 => ⟨rfl, ?_⟩⟩⟩
    have s6 : Same H5 H6 := fun b o e => b6 _ _ (ne_of_none e hx) (by
      rw [upd_ne (ne_of_none e hx), upd_ne (ne_of_none e hdx)]
      exact e)
    have N6 := N5.same s6
    have T6 := Tabs.ext T5 s6
    have hx6 : HouL K CH CM H6 c s0 x a0 [] [] := ⟨a0, .non, hh6.at_, ⟨rfl, hh6.mo⟩, rfl⟩
    clear hx hdx ne b6 hh6 s6 N5 T5 b5 N4 T4 tb0 dx
    refine ⟨_, rfl, ?_⟩
    dsimp only [tNil, tCons]
    refine told_one (A := [h, l]) hx6 (by decide) (fun a ha => ?_) fun v0 H7 s7 t7 => ⟨by show 1 ≤ sizeLine; decide, fun sn hsn => ?_⟩
    · obtain ⟨xs, e1⟩ := N6.h1
      obtain ⟨ys, e2⟩ := N6.l1
      rcases List.mem_cons.mp ha with z | z
      · exact ⟨_, z ▸ e1⟩
      · exact ⟨_, List.mem_singleton.mp z ▸ e2⟩
    have s8 := same_upd (o := .lst [v0]) hsn
    have g8 := upd_same (H := H7) (a := sn) (o := .lst [v0])
    have t8 := (t7.more hsn).same s8
    have nsh : sn ≠ h := let ⟨_, e⟩ := (N6.same s7).h1; (ne_of_none e hsn).symm
    have nsl : sn ≠ l := let ⟨_, e⟩ := (N6.same s7).l1; (ne_of_none e hsn).symm
    generalize upd H7 sn (.lst [v0]) = H8 at *
    have N8 := (N6.same s7).same s8
    have T8 := Tabs.ext (Tabs.ext T6 s7) s8
    have hx8 := (hx6.same s7).same s8
    have se8 : SeenAt K h l H8 sn c s0 [] := ⟨_, g8, rfl, fun k v e => by
      have : k = 0 := by
        have := (List.getElem?_eq_some_iff.mp e).1
        rw [List.length_singleton] at this
        omega
      subst this
      cases e
      exact t8⟩
    clear s7 s8 t7 t8 g8 hsn N6 T6 hx6 H7
    have ah : h ∈ [sn, h, l] := List.mem_cons_of_mem _ List.mem_cons_self
    have al : l ∈ [sn, h, l] := List.mem_cons_of_mem _ (List.mem_cons_of_mem _ List.mem_cons_self)
    refine ⟨_, rfl, h, l, 7, rfl, N8, by decide, by decide, fun nt H9 n0 n1 N9 b9 => ?_⟩
    have T9 := tabs_but2 T8 b9 N8
    have hx9 := hx8.but2 b9 N8
    have se9 := se8.butX (.of2 b9) N8 hx8.hx nsh nsl
    refine ⟨_, _, rfl, rfl, _, rfl, by omega, by omega, for_range (lo := 0) (n := (1 + nt).toNat) (fun i σ H' => ∃ (L : List Mo) (x6 : Option V), σ = [some (.ref a), some (.ref h), some (.int c), some (.int s0), some (.ref x), some (.ref sn), x6, none, none, none, none, none, none, none] ∧ L.length = i ∧ (∀ z ∈ L, canE c z.en ∧ formE z.en) ∧ NextAt H' h l ∧ Tabs TT H' ∧ HouL K CH CM H' c s0 x a0 L [] ∧ SeenAt K h l H' sn c s0 (ens L))
      ⟨[], none, rfl, rfl, (fun z hz => nomatch hz), N9, T9, hx9, se9⟩ ?_ ?_⟩
    · clear N8 T8 hx8 se8 b9 N9 T9 hx9 se9 H9 H8
      rintro i σ H8 hi ⟨L, x6, rfl, hL, good, N8, T8, hx8, se8⟩
      have ri := posE_in r0 (show s0 ≤ c by omega) (es := ens L) fun e he => by
        obtain ⟨z, hz, rfl⟩ := List.mem_map.mp he
        exact (good z hz).1
      have l8 : L.length ≤ 7 := by omega
      obtain ⟨dx8, c8, p8, rv8, ax⟩ := hx8.hx
      refine ⟨_, rfl, x, dx8, _, rfl, ax, lkS (by decide) (lkS (by decide) (lkS (by decide) lkN)), _, rfl, _, rfl, h, l, c, rfl, N8, c0, by omega, fun v en H9 N9 b9 o9 cn fe => ?_⟩
      have T9 := tabs_but2 T8 b9 N8
      have hx9 := hx8.but2 b9 N8
      have se9 := se8.butX (.of2 b9) N8 hx8.hx nsh nsl
      dsimp only [tNil, tCons]
      refine app_one hx9 c0 (by omega) ri.1 ri.2 o9 fe cn fun q z H10 ez b10 hx10 => ?_
      have N10 := N9.butH b10 hx9.hx
      have T10 := tabs_butH T9 b10 hx9.hx
      have se10 := se9.butX (.of1 b10) N9 hx9.hx nsh nsl
      refine ⟨_, rfl, .inl ⟨rfl, _, SqL.of se10.choose_spec.1⟩, _, rfl, ?_⟩
      dsimp only [tNil, tCons]
      have hA : ∀ a ∈ [sn, h, l], ∃ o, H10 a = some o := fun a ha => by
        obtain ⟨vs, e0, _⟩ := se10
        obtain ⟨xs, e1⟩ := N10.h1
        obtain ⟨ys, e2⟩ := N10.l1
        rcases List.mem_cons.mp ha with z | z
        · exact ⟨_, z ▸ e0⟩
        rcases List.mem_cons.mp z with z1 | z2
        · exact ⟨_, z1 ▸ e1⟩
        · exact ⟨_, List.mem_singleton.mp z2 ▸ e2⟩
      refine told_one (A := [sn, h, l]) hx10 (by rw [List.length_cons]; omega) hA fun v1 H11 s11 t11 => ?_
      have ez' : ens (z :: L) = en :: ens L := by show z.en :: ens L = _; rw [ez]
      rw [ez'] at t11
      obtain ⟨vs, ev, lv, se12⟩ := (se10.same s11).grow t11
      have lv7 : vs.length ≤ 8 := by rw [lv, List.length_map]; omega
      refine ⟨sn, vs, v1, rfl, rfl, ev, Nat.lt_of_le_of_lt lv7 (by rw [sizeLine_eq]; decide), ?_⟩
      have hx11 := hx10.same s11
      have hx12 : HouL K CH CM (upd H11 sn (.lst (vs ++ [v1]))) c s0 x a0 (z :: L) [] := hx11.keep (mkeep_updL ev) (fix_updL ev) fun o e ⟨_, _, _, _, w⟩ => by
        subst w
        rw [upd_ne (ne_of e ev fun z => nomatch z)]
        exact e
      refine ⟨z :: L, _, rfl, by rw [List.length_cons, hL], fun y hy => ?_, (N10.same s11).updL nsh nsl, Tabs.updL (T := TT) (Tabs.ext T10 s11) ev, hx12, ?_⟩
      · rcases List.mem_cons.mp hy with y1 | y1
        · rw [y1, ez]; exact ⟨cn, fe⟩
        · exact good y y1
      · rw [ez']; exact se12
    · clear N8 T8 hx8 se8 b9 N9 T9 hx9 se9 H9 H8
      rintro σ H8 ⟨LF, x6, rfl, hL, good, N8, T8, hx8, se8⟩
      obtain ⟨n, hn⟩ : ∃ n : Nat, (1 + nt).toNat = n := ⟨_, rfl⟩
      rw [hn] at hL
      have n1 : 1 ≤ n := by omega
      have n7 : n ≤ 7 := by omega
      have lE : (ens LF).length = n := by rw [List.length_map]; exact hL
      have canF : ∀ e ∈ ens LF, canE c e ∧ formE e := fun e he => by
        obtain ⟨z, hz, rfl⟩ := List.mem_map.mp he
        exact good z hz
      obtain ⟨vs8, ev8, lv8, _⟩ := se8
      have se8 : SeenAt K h l H8 sn c s0 (ens LF) := ⟨vs8, ev8, lv8, by assumption⟩
      refine ⟨_, rfl, sn, vs8, rfl, .inl (SqL.of ev8), _, _, rfl, rfl, ?_⟩
      dsimp only
      have em : ((vs8.length : Nat) : Int) - 1 = (n : Int) := by omega
      rw [em]
      refine ⟨_, rfl, _, rfl, _, _, rfl, rfl, h, l, (n : Int) + 2, rfl, N8, by omega, by omega, fun bk H9 b0 b1 N9 b9 => ?_⟩
      have T9 := tabs_but2 T8 b9 N8
      have hx9 := hx8.but2 b9 N8
      have se9 := se8.butX (.of2 b9) N8 hx8.hx nsh nsl
      clear N8 T8 hx8 b9 se8 ev8 lv8
      refine ⟨_, rfl, bk, rfl, by omega, by omega, for_range (lo := 0) (n := bk.toNat) (fun i σ H' => ∃ (x9 : Option V), σ = [some (.ref a), some (.ref h), some (.int c), some (.int s0), some (.ref x), some (.ref sn), x6, some (.int n), some (.int bk), x9, none, none, none, none] ∧ NextAt H' h l ∧ Tabs TT H' ∧ HouL K CH CM H' c s0 x a0 (LF.drop i) (LF.take i).reverse ∧ SeenAt K h l H' sn c s0 (ens LF))
        ⟨none, rfl, N9, T9, hx9, se9⟩ ?_ ?_⟩
      · clear N9 T9 hx9 se9
        rintro i σ H10 hi ⟨x9, rfl, N10, T10, hx10, se10⟩
        obtain ⟨dx8, c8, p8, rv8, ax⟩ := hx10.hx
        refine ⟨_, rfl, x, dx8, _, rfl, ax, lkS (by decide) (lkS (by decide) (lkS (by decide) lkN)), ?_⟩
        by_cases hin : i < LF.length
        · have ed : LF.drop i = LF[i] :: LF.drop (i + 1) := List.drop_eq_getElem_cons hin
          rw [ed] at hx10
          dsimp only [tNil]
          refine undo_one hx10 fun H11 b11 hx11 => ?_
          have et : LF[i] :: (LF.take i).reverse = (LF.take (i + 1)).reverse := by
            rw [take_more (List.getElem?_eq_getElem hin), List.reverse_append]
            rfl
          rw [et] at hx11
          refine ⟨_, rfl, _, rfl, _, _, rfl, rfl, _, _, rfl, sm_scal' (decide_eq_true (by omega)) 5, fun H12 s12 => ⟨_, rfl, iteF ?_⟩⟩
          have N11 := N10.butH b11 hx10.hx
          have T11 := tabs_butH T10 b11 hx10.hx
          have se11 := se10.butX (.of1 b11) N10 hx10.hx nsh nsl
          exact ⟨_, rfl, N11.same s12, Tabs.ext T11 s12, hx11.same s12, se11.same s12⟩
        · have ed : LF.drop i = [] := List.drop_eq_nil_of_le (by omega)
          have ed1 : LF.drop (i + 1) = [] := List.drop_eq_nil_of_le (by omega)
          have et1 : LF.take (i + 1) = LF.take i := by rw [List.take_of_length_le (by omega), List.take_of_length_le (by omega)]
          rw [ed] at hx10
          dsimp only [tNil]
          refine undo_none hx10 ?_
          refine ⟨_, rfl, _, rfl, _, _, rfl, rfl, _, _, rfl, sm_scal' (decide_eq_false (by omega)) 5, fun H12 s12 => ⟨_, rfl, iteF ?_⟩⟩
          exact ⟨_, rfl, N10.same s12, Tabs.ext T10 s12, by rw [ed1, et1]; exact hx10.same s12, se10.same s12⟩
      · clear N9 T9 hx9 se9
        rintro σ H10 ⟨x9, rfl, N10, T10, hx10, se10⟩
        -- so many operations are in effect
        obtain ⟨B, hB⟩ : ∃ B : Nat, B = min bk.toNat n := ⟨_, rfl⟩
        have hBn : B ≤ n := by omega
        have eD : LF.drop bk.toNat = LF.drop B := by
          by_cases z : bk.toNat ≤ n
          · rw [hB, Nat.min_eq_left z]
          · rw [List.drop_eq_nil_of_le (by omega), List.drop_eq_nil_of_le (by omega)]
        have eT : LF.take bk.toNat = LF.take B := by
          by_cases z : bk.toNat ≤ n
          · rw [hB, Nat.min_eq_left z]
          · rw [List.take_of_length_le (by omega), List.take_of_length_le (by omega)]
        rw [eD, eT] at hx10
        refine ⟨_, rfl, _, rfl, _, _, rfl, rfl, _, _, rfl, ?_⟩
        dsimp only
        have el : (if (n : Int) - bk > 0 then (n : Int) - bk else 0) = ((n - B : Nat) : Int) := by
          split <;> omega
        rw [el]
        have fD : ∀ k, ∀ e ∈ ens (LF.drop k), canE c e ∧ formE e := fun k e he => by
          obtain ⟨z, hz, rfl⟩ := List.mem_map.mp he
          exact good z (List.mem_of_mem_drop hz)
        have lD : ∀ k, (LF.drop k).length ≤ 800 := fun k => by rw [List.length_drop]; omega
        have eE : ∀ k, k ≤ n → ens (LF.drop k) = (ens LF).drop ((ens LF).length - (n - k)) := fun k hk => by
          rw [lE, show n - (n - k) = k by omega]
          exact List.map_drop
        have rD : ∀ k, 0 ≤ (posE c s0 (ens (LF.drop k))).1 ∧ (posE c s0 (ens (LF.drop k))).1 ≤ c := fun k => posE_in r0 (show s0 ≤ c by omega) fun e he => (fD k e he).1
        refine ⟨_, rfl, ?_⟩
        dsimp only [tNil, tCons]
        refine told_two hx10 (lD B) se10 (by rw [lE]; omega) (eE B hBn) fun v1 vs1 u1 H11' s11' t11 e11 eu11 tu11 => ⟨_, rfl, _, rfl, sn, vs1, _, u1, rfl, rfl, SqL.of e11, at_of rfl eu11, v1, u1, rfl, ToldV.sm (fun e he => (fD B e he).2) (by rw [List.length_map]; exact lD B) t11 tu11, fun H11 s11'' => ⟨_, rfl, iteF ?_⟩⟩
        have s11 := s11'.trans s11''
        clear t11 e11 eu11 tu11 s11' s11''
        have N11 := N10.same s11
        have T11 := Tabs.ext T10 s11
        have hx11 := hx10.same s11
        have se11 := se10.same s11
        refine ⟨_, rfl, _, rfl, _, rfl, h, l, x, a0, c, s0, _, _, rfl, N11, T11, hx11, lD B, c0, c1', (rD B).1, (rD B).2, fun H12 b12 N12 T12 hx12 => ⟨_, rfl, iteF ?_⟩⟩
        have se12 := se11.butX b12 N11 hx11.hx nsh nsl
        clear N10 T10 hx10 se10 N11 T11 hx11 se11 b12 eD eT
        -- one is taken up again
        obtain ⟨B2, hB2⟩ : ∃ B2 : Nat, B2 = B - 1 := ⟨_, rfl⟩
        have redo : ∀ {σ : L2.St} {Q : VK}, σ[4]? = some (some (.ref x)) → σ[10]? = some (some (.int ((n - B : Nat) : Int))) → σ[7]? = some (some (.int n)) → (∀ H', NextAt H' h l → Tabs TT H' → HouL K CH CM H' c s0 x a0 (LF.drop B2) (LF.take B2).reverse → SeenAt K h l H' sn c s0 (ens LF) → Q (.bl true) H') →
            (tMethR CH "redo" (spRedo CH CM) E0 (tVar 4) tNil) σ H12 (fun x_1 H1 => tOp (rI0 fun i j => V.bl (decide (i < j))) (tVar 10) (tVar 7) σ H1 fun y H1 => spAlike K 5 [x_1, y] H1 Q E0) := by
          intro σ Q i1 i2 i3 k2
          obtain ⟨dx8, c8, p8, rv8, ax⟩ := hx12.hx
          refine ⟨_, i1, x, dx8, _, rfl, ax, lkS (by decide) (lkS (by decide) (lkS (by decide) lkN)), ?_⟩
          dsimp only [tNil]
          by_cases hb : 1 ≤ B
          · have hin : B2 < LF.length := by omega
            have ed : LF.drop B2 = LF[B2] :: LF.drop B := by rw [show B = B2 + 1 by omega]; exact List.drop_eq_getElem_cons hin
            have et : (LF.take B).reverse = LF[B2] :: (LF.take B2).reverse := by
              rw [show B = B2 + 1 by omega, take_more (List.getElem?_eq_getElem hin), List.reverse_append]
              rfl
            rw [et] at hx12
            refine redo_one hx12 fun H13 b13 hx13 => ?_
            rw [← ed] at hx13
            refine ⟨_, i2, _, i3, _, _, rfl, rfl, _, _, rfl, sm_scal' (decide_eq_true (by omega)) 5, fun H14 s14 => ?_⟩
            exact k2 H14 ((N12.butH b13 hx12.hx).same s14) (Tabs.ext (tabs_butH T12 b13 hx12.hx) s14) (hx13.same s14) ((se12.butX (.of1 b13) N12 hx12.hx nsh nsl).same s14)
          · have z1 : B = 0 := by omega
            have z2 : B2 = 0 := by omega
            subst z1 z2
            rw [show (LF.take 0).reverse = [] from rfl] at hx12
            refine redo_none hx12 ?_
            refine ⟨_, i2, _, i3, _, _, rfl, rfl, _, _, rfl, sm_scal' (decide_eq_false (by omega)) 5, fun H14 s14 => ?_⟩
            exact k2 H14 (N12.same s14) (Tabs.ext T12 s14) (hx12.same s14) (se12.same s14)
        refine redo rfl rfl rfl fun H13 N13 T13 hx13 se13 => ⟨_, rfl, iteF ?_⟩
        clear redo N12 T12 hx12 se12
        refine ⟨_, rfl, _, rfl, _, _, rfl, rfl, _, _, rfl, ?_⟩
        dsimp only
        have hB2n : B2 ≤ n := by omega
        have el2 : (if ((n - B : Nat) : Int) + 1 < (n : Int) then ((n - B : Nat) : Int) + 1 else (n : Int)) = ((n - B2 : Nat) : Int) := by
          split <;> omega
        rw [el2]
        refine ⟨_, rfl, ?_⟩
        dsimp only [tNil, tCons]
        refine told_two hx13 (lD B2) se13 (by rw [lE]; omega) (eE B2 hB2n) fun v2 vs2 u2 H14' s14' t14 e14 eu14 tu14 => ⟨_, rfl, _, rfl, sn, vs2, _, u2, rfl, rfl, SqL.of e14, at_of rfl eu14, v2, u2, rfl, ToldV.sm (fun e he => (fD B2 e he).2) (by rw [List.length_map]; exact lD B2) t14 tu14, fun H14 s14'' => ⟨_, rfl, iteF ?_⟩⟩
        have s14 := s14'.trans s14''
        clear t14 e14 eu14 tu14 s14' s14''
        have N14 := N13.same s14
        have T14 := Tabs.ext T13 s14
        have hx14 := hx13.same s14
        have se14 := se13.same s14
        clear N13 T13 hx13 se13 s14 el el2
        refine ⟨rfl, _, rfl, _, rfl, ?_⟩
        dsimp only [tNil, tCons]
        refine replay_none c0 (by omega) r0 (by omega) fun y b0' H15 s15 hy hy15 => ?_
        have nxy : x ≠ y := let ⟨_, _, _, _, e⟩ := hx14.hx; ne_of_none e hy
        have N15 := N14.same s15
        have T15 := Tabs.ext T14 s15
        have hx15 := hx14.same s15
        have se15 := se14.same s15
        clear N14 T14 hx14 se14 s15 hy
        obtain ⟨L2, hL2⟩ : ∃ L2, L2 = LF.drop B2 := ⟨_, rfl⟩
        have f2 := fD B2
        have r2 := rD B2
        have l2 := lD B2
        have e2 := eE B2 hB2n
        rw [← hL2] at hx15 f2 r2 l2 e2
        obtain ⟨dx8, c8, p8, rv8, ax⟩ := hx15.hx
        refine ⟨_, rfl, x, dx8, _, rfl, ax, hist_one hx15 l2 fun q H16 s16 e16 => ⟨q, rfl, ⟨_, SqL.of e16⟩, ?_⟩⟩
        have lh : (L2.map (·.op)).reverse.length = L2.length := by rw [List.length_reverse, List.length_map]
        refine for_list (K := K) (a := q) (xs := (L2.map (·.op)).reverse) (fun i σ H' => ∃ (Lt : List Mo) (x12 : Option V), σ = [some (.ref a), some (.ref h), some (.int c), some (.int s0), some (.ref x), some (.ref sn), x6, some (.int n), some (.int bk), x9, some (.int ((n - B2 : Nat) : Int)), some (.ref y), x12, none] ∧ ens Lt = ((ens L2).reverse.take i).reverse ∧ NextAt H' h l ∧ Tabs TT H' ∧ HouL K CH CM H' c s0 x a0 L2 (LF.take B2).reverse ∧ HouL K CH CM H' c s0 y b0' Lt [] ∧ SeenAt K h l H' sn c s0 (ens LF) ∧ H' q = some (.lst (L2.map (·.op)).reverse))
          ⟨[], none, rfl, rfl, N15.same s16, Tabs.ext T15 s16, hx15.same s16, hy15.same s16, se15.same s16, e16⟩ (fun i σ H' _ ⟨_, _, _, _, _, _, _, _, _, z⟩ => SqL.of z) ?_ ?_
        · clear ax N15 T15 hx15 hy15 se15 e16 s16
          rintro i v σ H17 hv ⟨Lt, x12, rfl, eLt, N17, T17, hx17, hy17, se17, e17⟩
          obtain ⟨e, he, ho⟩ : ∃ e, (ens L2).reverse[i]? = some e ∧ OpAt K H17 v e := by
            obtain ⟨m, op, ee, rv, hh, hm, _⟩ := hx17.is
            exact pr_get (pr_rev hm.ops) hv
          have fe := f2 e (List.mem_reverse.mp (List.mem_of_getElem? he))
          have rt := posE_in r0 (show s0 ≤ c by omega) (es := ens Lt) fun e' he' => (f2 e' (by
            rw [eLt] at he'
            exact List.mem_reverse.mp (List.mem_of_mem_take (List.mem_reverse.mp he')))).1
          obtain ⟨dy, c8', p8', rv8', ay⟩ := hy17.hx
          refine ⟨_, rfl, y, dy, _, rfl, ay, lkS (by decide) (lkS (by decide) (lkS (by decide) lkN)), _, rfl, ?_⟩
          dsimp only [tNil, tCons]
          refine app_one hy17 c0 (by omega) rt.1 rt.2 ho fe.2 fe.1 fun q2 z H18 ez b18 hy18 => ?_
          refine ⟨z :: Lt, _, rfl, ?_, N17.butH b18 hy17.hx, tabs_butH T17 b18 hy17.hx, hx17.butX (.of1 b18) N17 hy17.hx nxy, hy18, se17.butX (.of1 b18) N17 hy17.hx nsh nsl, b18 _ _ (ne_of e17 ay fun z => nomatch z) e17⟩
          show z.en :: ens Lt = _
          rw [ez, eLt, take_more he, List.reverse_append]
          rfl
        · clear ax N15 T15 hx15 hy15 se15 e16 s16 dx8 c8 p8 rv8
          rintro σ H17 ⟨Lt, x12, rfl, eLt, N17, T17, hx17, hy17, se17, e17⟩
          have eL : ens Lt = ens L2 := by
            rw [eLt, lh, List.take_of_length_le (by rw [List.length_reverse, List.length_map]; exact Nat.le_refl _), List.reverse_reverse]
          have lt8 : Lt.length ≤ 800 := by
            have h1 := congrArg List.length eL
            rw [List.length_map, List.length_map] at h1
            omega
          refine ⟨_, rfl, ?_⟩
          dsimp only [tNil, tCons]
          refine told_two hy17 lt8 se17 (by rw [lE]; omega) (eL.trans e2) fun v3 vs3 u3 H18 s18 t18 e18 eu18 tu18 => ⟨_, rfl, _, rfl, sn, vs3, _, u3, rfl, rfl, SqL.of e18, at_of rfl eu18, _, _, t18.dp, tu18.dp, toldD_shaped _ _ _, toldD_shaped _ _ _, _, rfl, ifF (by rw [toldD_eqv]; rfl) ?_⟩
          have N18 := N17.same s18
          have T18 := Tabs.ext T17 s18
          have hx18 := hx17.same s18
          have se18 := se17.same s18
          clear N17 T17 hx17 hy17 se17 e17 t18 e18 eu18 tu18 s18
          obtain ⟨dx8, c8, p8, rv8, ax⟩ := hx18.hx
          refine ⟨_, rfl, x, dx8, _, rfl, ax, lkS (by decide) (lkS (by decide) (lkS (by decide) lkN)), ?_⟩
          dsimp only [tNil, tCons]
          refine turn_one T.tT hx18 fun z H19 ez b19 hx19 => ?_
          have N19 := N18.butH b19 hx18.hx
          have T19 := tabs_butH T18 b19 hx18.hx
          have se19 := se18.butX (.of1 b19) N18 hx18.hx nsh nsl
          clear ax dx8 c8 p8 rv8 N18 T18 hx18 se18 b19
          obtain ⟨dx8, c8, p8, rv8, ax⟩ := hx19.hx
          refine ⟨_, rfl, x, dx8, _, rfl, ax, lkS (by decide) (lkS (by decide) (lkS (by decide) lkN)), ?_⟩
          dsimp only [tNil, tCons]
          refine redo_none hx19 ⟨_, rfl, iteF ?_⟩
          refine ⟨_, rfl, x, dx8, _, rfl, ax, lkS (by decide) (lkS (by decide) (lkS (by decide) lkN)), ?_⟩
          dsimp only [tNil, tCons]
          refine undo_one hx19 fun H20 b20 hx20 => ⟨_, _, rfl, rfl, _, rfl, ifF (by decide) ?_⟩
          have N20 := N19.butH b20 hx19.hx
          have T20 := tabs_butH T19 b20 hx19.hx
          have se20 := se19.butX (.of1 b20) N19 hx19.hx nsh nsl
          clear ax dx8 c8 p8 rv8 N19 T19 hx19 se19 b20
          refine ⟨_, rfl, ?_⟩
          dsimp only [tNil, tCons]
          refine told_two hx20 l2 se20 (by rw [lE]; omega) e2 fun v4 vs4 u4 H21 s21 t21 e21 eu21 tu21 => ⟨_, rfl, _, rfl, sn, vs4, _, u4, rfl, rfl, SqL.of e21, at_of rfl eu21, _, _, t21.dp, tu21.dp, toldD_shaped _ _ _, toldD_shaped _ _ _, _, rfl, ifF (by rw [toldD_eqv]; rfl) ?_⟩
          have se21 := se20.same s21
          clear N20 T20 hx20 se20 t21 e21 eu21 tu21 s21
          obtain ⟨e0, t, hE⟩ : ∃ e0 t, (ens LF).reverse = e0 :: t := by
            cases hz : (ens LF).reverse with
            | nil =>
              have h1 := congrArg List.length hz
              rw [List.length_reverse, lE, List.length_nil] at h1
              omega
            | cons e0 t => exact ⟨e0, t, rfl⟩
          have hE2 : ens LF = t.reverse ++ [e0] := by rw [← List.reverse_reverse (ens LF), hE, List.reverse_cons]
          obtain ⟨vs5, u5, e5, lv5, eu5, tu5⟩ := se21.get (k := n) (by rw [lE]; exact Nat.le_refl _)
          rw [lE, Nat.sub_self, List.drop_zero] at tu5
          obtain ⟨l5, q5, g5, vq, rfl, _, el5, eq5, hP5, _⟩ := tu5
          rw [hE] at hP5
          obtain ⟨w0, hw0, ho0⟩ : ∃ w0, vq[0]? = some w0 ∧ OpAt K H21 w0 e0 := by
            cases hP5 with
            | cons a r => exact ⟨_, rfl, a⟩
          have fe0 := canF e0 (by rw [hE2]; exact List.mem_append_right _ (List.mem_singleton.mpr rfl))
          refine ⟨_, rfl, 1, rfl, sn, vs5, -1, _, rfl, rfl, SqL.of e5, at_lastN (lv5.trans (by rw [lE])) eu5, ?_⟩
          refine ⟨l5, _, 4, _, rfl, rfl, SqL.of el5, at_of (j := 4) rfl rfl, ?_⟩
          refine ⟨q5, _, 0, _, rfl, rfl, SqL.of eq5, at_of (j := 0) rfl hw0, ?_⟩
          refine ⟨rfl, _, rfl, _, rfl, _, rfl, ?_⟩
          dsimp only [tNil, tCons]
          refine replay_one c0 (by omega) r0 (by omega) ho0 fe0.2 fe0.1 fun y2 b2 z2 H22 ez2 s22 hy22 => ?_
          have se22 := se21.same s22
          have e22 : ens [z2] = (ens LF).drop ((ens LF).length - 1) := by
            show [z2.en] = _
            rw [ez2, hE2, List.length_append, List.length_singleton, Nat.add_sub_cancel, List.drop_left]
          refine told_two hy22 (by show 1 ≤ 800; decide) se22 (by rw [lE]; omega) e22 fun v6 vs6 u6 H23 s23 t23 e23 eu23 tu23 => ?_
          refine ⟨_, rfl, sn, vs6, 1, u6, rfl, rfl, SqL.of e23, at_of (j := 1) rfl eu23, _, _, t23.dp, tu23.dp, toldD_shaped _ _ _, toldD_shaped _ _ _, ?_⟩
          rw [toldD_eqv]
          exact k H23
end
end Cc

/-! The end of a row whose law makes lambdas: its code's table is tracked, the script is locked. -/
namespace Cc
open PySem PySem.Spec PyProof.Rows L2
open LamX
/-- the table of a def's code, by what the written part tells -/
theorem tab_mk {K : PySem.W.Frag} {x : Str} {f c P : Addr} {oc oC : Value} {od dC : Option Addr} {fd : FuncData} {sl slC : Array (Option Value)} {vC : Array Value} (a : PySem.W.nsIn K mainGlobals x = some (some (.ref f))) (l : K.lookup f = some ⟨oc, od, .func fd, sl⟩) (hc : fd.code = .ref c)
    (lc : K.lookup c = some ⟨oC, dC, .fields vC, slC⟩) (h : vC[11]? = some (.ref P)) : PySem.W.tabIn K x = some (c, P) := by
  unfold PySem.W.tabIn
  rw [a]
  dsimp only
  rw [l]
  dsimp only
  rw [hc]
  dsimp only
  rw [lc]
  dsimp only
  rw [h]
/-- an own error class catches its own -/
theorem exm_own {K : PySem.W.Frag} {C : Addr} (b : PySem.W.subIn K (.ref C) (.type "BaseException") = some true) (i : PySem.W.isClsIn K C = true) (t : PySem.W.typeIn K (.ref C) = some (.type "type")) (s : PySem.W.subIn K (.ref C) (.ref C) = some true) : PySem.W.exmOne K (.ref C) (.ref C) = some true := by
  have i2 : (PySem.W.clsIn K C).isSome = true := i
  unfold PySem.W.exmOne PySem.W.kitCls
  simp only [b, i2, t, s]
  rfl
theorem call_tab {P : Program} {w : World} {K : PySem.W.Frag} {mg mb : Str → Option Value} {k : Nat} {fa a c T : Addr} {fd : FuncData} {x : Str} {sp : Sp} {st : Shared} {us : List Value} {ns : List Int}
    (kin : K.In st.heap) (gl : st.heap.Ns mainGlobals mg) (bl : st.heap.Ns builtinsNs mb) (blb : ∀ x : Str, x ≠ "__name__" → mb x = bootBuiltins x) (lim : st.heap.NoLimit) (ge : st.gens = #[])
    (atT : st.heap.get? T = some { cls := .none, data := .fields #[] }) (kT : K.lookup T = none) (cd : PySem.W.CodeHd st.heap c T)
    (mn : ∃ (bm : Addr) (ob : Obj), mg "__builtins__" = some (.ref bm) ∧ bm ≠ builtinsNs ∧ st.heap.get? bm = some ob ∧ ob.cls = .type "module" ∧ ob.dict = some builtinsNs ∧ ob.data = .plain)
    (atA : st.heap.get? a = some { cls := .type "list", data := .seq us.toArray }) (isI : IntsAre us ns) (len : ns.length ≤ sizeLine) (room : Room k callerA)
    (F : ∀ base : Heap, K.In base → base.Ns mainGlobals mg → TabB base mg c T → FnOk P w K mg base CX0 k fa fd [x] sp) (bind : ∀ (s : Shared) (u : Value), BindsTo s fd ⟨[u], []⟩ [(x, u)])
    (hsp : ∀ H : Hp, H T = some (.tbl #[]) → SqF K H a (ns.map V.int) → sp [.ref a] H (fun v _ => v = .bl true) fun _ _ _ => False) :
    codeAny (model P w) callerA (.call (.ref fa) ⟨[.ref a], []⟩) (fun r s' => r = .ok (.ret (.bool true)) ∧ OldK st.heap s'.heap ∧ s'.os = st.os ∧ AllBare s'.gens) st := by
  have rel := vals_ints isI
  have many := isI.length
  have neq : a ≠ T := fun z => by
    rw [z, atT] at atA
    cases atA
  obtain ⟨H, hT, hO, hS, hok, hA, hK⟩ : ∃ H : Hp, H T = some (.tbl #[]) ∧ (∀ b, H b = none ∨ b = T ∨ ∃ o xs, H b = some (.frz o (.lst xs))) ∧ SqF K H a (ns.map V.int) ∧ HOk P w H st.heap ∧ (∀ b, H b ≠ none → b = a ∨ b = T) ∧ (H a ≠ none → K.lookup a = none) := by
    cases hk : K.lookup a with
    | some o =>
      have e := kin a o hk
      rw [atA] at e
      cases e
      refine ⟨fun b => if b = T then some (.tbl #[]) else none, if_pos rfl, fun b => ?_, .inr (.inr ⟨_, us.toArray, _, hk, rfl, rfl, rfl, by rw [List.size_toArray, many]; exact len, by simpa using rel⟩), fun b u z => ?_, fun b z => ?_, fun z => (z (if_neg neq)).elim⟩
      · by_cases q : b = T
        · exact .inr (.inl q)
        · exact .inl (if_neg q)
      · by_cases q : b = T
        · cases (if_pos q).symm.trans z
          rw [q]
          exact atT
        · cases (if_neg q).symm.trans z
      · by_cases q : b = T
        · exact .inr q
        · exact (z (if_neg q)).elim
    | none =>
      refine ⟨fun b => if b = a then some (.frz { cls := .type "list", data := .seq us.toArray } (.lst (ns.map V.int))) else if b = T then some (.tbl #[]) else none, (if_neg neq.symm).trans (if_pos rfl), fun b => ?_, .inl ⟨_, if_pos rfl⟩, fun b u z => ?_, fun b z => ?_, fun _ => rfl⟩
      · by_cases q : b = a
        · exact .inr (.inr ⟨_, _, if_pos q⟩)
        · by_cases q2 : b = T
          · exact .inr (.inl q2)
          · exact .inl ((if_neg q).trans (if_neg q2))
      · by_cases q : b = a
        · cases (if_pos q).symm.trans z
          rw [q]
          exact ⟨atA, by rw [List.length_map]; exact len, us, _, rel, atA⟩
        · by_cases q2 : b = T
          · cases (if_pos q2).symm.trans ((if_neg q).symm.trans z)
            rw [q2]
            exact atT
          · cases (if_neg q2).symm.trans ((if_neg q).symm.trans z)
      · by_cases q : b = a
        · exact .inl q
        · by_cases q2 : b = T
          · exact .inr q2
          · exact (z ((if_neg q).trans (if_neg q2))).elim
  -- what is no list and no table lies in the ground
  have plain : ∀ {b : Addr} {o : Obj}, st.heap.get? b = some o → (∀ vs n, o.data ≠ .seq vs n) → o.data ≠ .fields #[] → H b = none := fun {b o} e n1 n2 => by
    cases q : H b with
    | none => rfl
    | some u =>
      rcases hA b (by rw [q]; exact fun z => nomatch z) with z | z
      · rw [z, atA] at e
        cases e
        exact (n1 _ _ rfl).elim
      · rw [z, atT] at e
        cases e
        exact (n2 rfl).elim
  have dictB : ∀ {b : Addr} {m : Str → Option Value}, st.heap.Ns b m → (hidT st.heap H).Ns b m := fun {b m} ⟨o, es, ep, e, d, r⟩ => ⟨o, es, ep, hidT_get e (plain e (fun vs n z => by rw [d] at z; cases z) fun z => by rw [d] at z; cases z), d, r⟩
  have kinB : K.In (hidT st.heap H) := fun b o e => hidT_get (kin b o e) (by
    cases q : H b with
    | none => rfl
    | some u =>
      have n0 : H b ≠ none := by rw [q]; exact fun z => nomatch z
      rcases hA b n0 with z | z
      · subst z
        rw [hK n0] at e
        cases e
      · rw [z, kT] at e
        cases e)
  have modB : L2.Mod K mg (hidT st.heap H) := ⟨kinB, dictB gl, ⟨mb, dictB bl, blb⟩, let ⟨mc, h1, h2⟩ := lim; ⟨mc, dictB h1, h2⟩⟩
  have TB : TabB (hidT st.heap H) mg c T := by
    refine ⟨?_, ?_, fun z => ?_⟩
    · obtain ⟨o, vs, file, tf, flags, tg, inF, text, tt, e1, r1, r2, r3, more⟩ := cd
      exact ⟨o, vs, file, tf, flags, tg, inF, text, tt, hidT_get e1 (plain e1 (fun vs n z => by rw [r2] at z; cases z) fun z => by rw [r2] at z; cases z; simp at r3), r1, r2, r3, more⟩
    · obtain ⟨bm, ob, b1, b2, b3, b4, b5, b6⟩ := mn
      refine ⟨bm, ob, b1, b2, fun q => ?_, fun q => ?_, hidT_get b3 (plain b3 (fun vs n z => by rw [b6] at z; cases z) fun z => by rw [b6] at z; cases z), b4, b5, b6⟩
      · obtain ⟨o, es, ep, e, d, _⟩ := gl
        rw [q, e] at b3
        cases b3
        rw [d] at b6
        cases b6
      · rw [q, atT] at b3
        cases b3
        cases b6
    · obtain ⟨o, es, ep, e, d, _⟩ := gl
      rw [z, atT] at e
      cases e
      cases d
  have e0 : Env0 P w K mg (hidT st.heap H) callerA [] st H := ⟨rfl, modB, fun b o e => of_hidT e, Nat.le_of_eq (hidT_size _ _), trivial, fun b hb => absurd (show b ∈ ([] : List Addr) from hb) List.not_mem_nil, hok, .of_eq ge⟩
  refine codeAny_mono ((F _ kinB (dictB gl) TB).run callerA [] st H ⟨[.ref a], []⟩ [.ref a] [.ref a] _ _ room e0 (bind st (.ref a)) (.cons rfl .nil) (hsp H hT hS)) fun r s' h => ?_
  cases r with
  | error e => exact False.elim h
  | ok fl =>
    cases fl with
    | next => exact False.elim h
    | brk => exact False.elim h
    | cont => exact False.elim h
    | ret u =>
      obtain ⟨v, H', os, bare, un, hok2, r2, q⟩ := h
      cases (show v = V.bl true from q)
      cases (show u = Value.bool true from r2)
      have kept : ∀ b o, b ≠ T → st.heap.get? b = some o → s'.heap.get? b = some o := fun b o nb e => by
        rcases hO b with z | z | ⟨ob, ys, z⟩
        · exact un.keep b o e z (fun w => absurd (show b ∈ ([] : List Addr) from w) List.not_mem_nil) (fun z => nomatch z)
        · exact (nb z).elim
        · obtain ⟨e1, _⟩ := hok b _ z
          obtain ⟨e2, _⟩ := hok2 b _ (un.frzs b ob _ z)
          rw [e] at e1
          cases e1
          exact e2
      obtain ⟨more, hm⟩ := un.tbls T #[] hT
      have grown : s'.heap.get? T = some { cls := .none, data := .fields (#[] ++ more) } := hok2 T _ hm
      refine ⟨rfl, ⟨fun b oo e => ?_, fun b oo e => ?_⟩, os, bare⟩
      · by_cases q : b = T
        · subst q
          rw [atT] at e
          cases e
          exact .inr (.inl ⟨(cd.tab atT).isCodeTable, rfl, #[], more, rfl, grown⟩)
        · exact .inl (kept b oo q e)
      · by_cases q : b = T
        · rw [q]
          exact ⟨_, grown⟩
        · exact ⟨oo, kept b oo q e⟩
/-- the row's end -/
theorem walk_tab {l : PySem.W.OpenLaw} {n k : Nat} {q : Program} {loose : List Str} {XP : (Str → Option Value) → Heap → Prop} {YP : World → Heap → Prop} {d : DefRec} {K : Params → PySem.W.Frag} {sp : World → Addr → Sp} {x : Str}
    (hn : l.most = some n) (hn2 : n ≤ sizeLine) (hdf : d.params.defaults = []) (hr : Room k callerA) (hY : ∀ (w : World) (h : Heap), YP w h → (K w.params).In h) (hd : (recsOf q).find? (fun e => e.name == d.name) = some d)
    (F : ∀ (w : World) (mg : Str → Option Value) (fa : Addr) (h : Heap), (K w.params).In h → h.Ns mainGlobals mg → mg d.name = some (.ref fa) → ∃ (fd : FuncData) (c T : Addr), PySem.W.tabIn (K w.params) d.name = some (c, T) ∧ (K w.params).lookup T = none ∧ (∀ (s : Shared) (u : Value), BindsTo s fd ⟨[u], []⟩ [(x, u)]) ∧
      ∀ base : Heap, (K w.params).In base → base.Ns mainGlobals mg → TabB base mg c T → FnOk l.prog w (K w.params) mg base CX0 k fa fd [x] (sp w T))
    (hsp : ∀ (w : World) (T : Addr) (H : Hp) (a : Addr) (ns : List Int), ns.length ≤ n → H T = some (.tbl #[]) → SqF (K w.params) H a (ns.map V.int) → sp w T [.ref a] H (fun v _ => v = .bl true) fun _ _ _ => False) :
    PySem.W.WalkO q loose XP YP l.row.toRowW d [] (fun g us => PySem.call g us) := by
  refine Att.attach_callB hn hdf fun w s₀ s₁ mg mb fa o pm cd doc a vs ns G Y ho hdat hcd hmg hobj hints hlen hbits hg => ?_
  have kin := hY w _ Y
  obtain ⟨fd, c, T, ht, kT, hb, hF⟩ := F w mg fa _ kin G.T.g hmg
  obtain ⟨C, atT⟩ := PySem.W.tab_of G.T kin hd ht
  exact call_tab kin G.T.g G.T.b G.T.builtins G.T.nolimit hg atT kT C G.T.bmain hobj hints (Nat.le_trans hlen hn2) hr hF hb fun H h1 h2 => hsp w T H a ns hlen h1 h2
end Cc

/-! The end of a row in which several defs make lambdas: the tables of all their codes are tracked. -/
namespace Cc
open PySem PySem.Spec PyProof.Rows L2
open LamX
theorem call_tabs {P : Program} {w : World} {K : PySem.W.Frag} {mg mb : Str → Option Value} {k : Nat} {fa a : Addr} {cts : List (Addr × Addr)} {fd : FuncData} {x : Str} {sp : Sp} {st : Shared} {us : List Value} {ns : List Int}
    (kin : K.In st.heap) (gl : st.heap.Ns mainGlobals mg) (bl : st.heap.Ns builtinsNs mb) (blb : ∀ x : Str, x ≠ "__name__" → mb x = bootBuiltins x) (lim : st.heap.NoLimit) (ge : st.gens = #[])
    (atQ : ∀ q ∈ cts, st.heap.get? q.2 = some { cls := .none, data := .fields #[] } ∧ K.lookup q.2 = none ∧ PySem.W.CodeHd st.heap q.1 q.2)
    (mn : ∃ (bm : Addr) (ob : Obj), mg "__builtins__" = some (.ref bm) ∧ bm ≠ builtinsNs ∧ st.heap.get? bm = some ob ∧ ob.cls = .type "module" ∧ ob.dict = some builtinsNs ∧ ob.data = .plain)
    (atA : st.heap.get? a = some { cls := .type "list", data := .seq us.toArray }) (isI : IntsAre us ns) (len : ns.length ≤ sizeLine) (room : Room k callerA)
    (F : ∀ base : Heap, K.In base → base.Ns mainGlobals mg → (∀ q ∈ cts, TabB base mg q.1 q.2) → FnOk P w K mg base CX0 k fa fd [x] sp) (bind : ∀ (s : Shared) (u : Value), BindsTo s fd ⟨[u], []⟩ [(x, u)])
    (hsp : ∀ H : Hp, (∀ q ∈ cts, H q.2 = some (.tbl #[])) → SqF K H a (ns.map V.int) → sp [.ref a] H (fun v _ => v = .bl true) fun _ _ _ => False) :
    codeAny (model P w) callerA (.call (.ref fa) ⟨[.ref a], []⟩) (fun r s' => r = .ok (.ret (.bool true)) ∧ OldK st.heap s'.heap ∧ s'.os = st.os ∧ AllBare s'.gens) st := by
  have rel := vals_ints isI
  have many := isI.length
  obtain ⟨L, hL⟩ : ∃ L : List Addr, L = cts.map (·.2) := ⟨_, rfl⟩
  have atL : ∀ b ∈ L, st.heap.get? b = some { cls := .none, data := .fields #[] } ∧ K.lookup b = none ∧ ∃ c, PySem.W.CodeHd st.heap c b := fun b hb => by
    rw [hL] at hb
    obtain ⟨q, hq, rfl⟩ := List.mem_map.mp hb; obtain ⟨h1, h2, h3⟩ := atQ q hq
    exact ⟨h1, h2, _, h3⟩
  have neq : a ∉ L := fun z => by
    rw [(atL a z).1] at atA
    cases atA
  obtain ⟨H, hT, hO, hS, hok, hA, hK⟩ : ∃ H : Hp, (∀ b ∈ L, H b = some (.tbl #[])) ∧ (∀ b, H b = none ∨ b ∈ L ∨ ∃ o xs, H b = some (.frz o (.lst xs))) ∧ SqF K H a (ns.map V.int) ∧ HOk P w H st.heap ∧ (∀ b, H b ≠ none → b = a ∨ b ∈ L) ∧ (H a ≠ none → K.lookup a = none) := by
    cases hk : K.lookup a with
    | some o =>
      have e := kin a o hk
      rw [atA] at e
      cases e
      refine ⟨fun b => if b ∈ L then some (.tbl #[]) else none, fun b hb => if_pos hb, fun b => ?_, .inr (.inr ⟨_, us.toArray, _, hk, rfl, rfl, rfl, by rw [List.size_toArray, many]; exact len, by simpa using rel⟩), fun b u z => ?_, fun b z => ?_, fun z => (z (if_neg neq)).elim⟩
      · by_cases q : b ∈ L
        · exact .inr (.inl q)
        · exact .inl (if_neg q)
      · by_cases q : b ∈ L
        · cases (if_pos q).symm.trans z
          exact (atL b q).1
        · cases (if_neg q).symm.trans z
      · by_cases q : b ∈ L
        · exact .inr q
        · exact (z (if_neg q)).elim
    | none =>
      refine ⟨fun b => if b = a then some (.frz { cls := .type "list", data := .seq us.toArray } (.lst (ns.map V.int))) else if b ∈ L then some (.tbl #[]) else none, fun b hb => (if_neg (fun z : b = a => neq (z ▸ hb))).trans (if_pos hb), fun b => ?_, .inl ⟨_, if_pos rfl⟩, fun b u z => ?_, fun b z => ?_, fun _ => rfl⟩
      · by_cases q : b = a
        · exact .inr (.inr ⟨_, _, if_pos q⟩)
        · by_cases q2 : b ∈ L
          · exact .inr (.inl q2)
          · exact .inl ((if_neg q).trans (if_neg q2))
      · by_cases q : b = a
        · cases (if_pos q).symm.trans z
          rw [q]
          exact ⟨atA, by rw [List.length_map]; exact len, us, _, rel, atA⟩
        · by_cases q2 : b ∈ L
          · cases (if_pos q2).symm.trans ((if_neg q).symm.trans z)
            exact (atL b q2).1
          · cases (if_neg q2).symm.trans ((if_neg q).symm.trans z)
      · by_cases q : b = a
        · exact .inl q
        · by_cases q2 : b ∈ L
          · exact .inr q2
          · exact (z ((if_neg q).trans (if_neg q2))).elim
  -- what is no list and no table lies in the ground
  have plain : ∀ {b : Addr} {o : Obj}, st.heap.get? b = some o → (∀ vs n, o.data ≠ .seq vs n) → o.data ≠ .fields #[] → H b = none := fun {b o} e n1 n2 => by
    cases q : H b with
    | none => rfl
    | some u =>
      rcases hA b (by rw [q]; exact fun z => nomatch z) with z | z
      · rw [z, atA] at e
        cases e
        exact (n1 _ _ rfl).elim
      · rw [(atL b z).1] at e
        cases e
        exact (n2 rfl).elim
  have dictB : ∀ {b : Addr} {m : Str → Option Value}, st.heap.Ns b m → (hidT st.heap H).Ns b m := fun {b m} ⟨o, es, ep, e, d, r⟩ => ⟨o, es, ep, hidT_get e (plain e (fun vs n z => by rw [d] at z; cases z) fun z => by rw [d] at z; cases z), d, r⟩
  have kinB : K.In (hidT st.heap H) := fun b o e => hidT_get (kin b o e) (by
    cases q : H b with
    | none => rfl
    | some u =>
      have n0 : H b ≠ none := by rw [q]; exact fun z => nomatch z
      rcases hA b n0 with z | z
      · subst z
        rw [hK n0] at e
        cases e
      · rw [(atL b z).2.1] at e
        cases e)
  have modB : L2.Mod K mg (hidT st.heap H) := ⟨kinB, dictB gl, ⟨mb, dictB bl, blb⟩, let ⟨mc, h1, h2⟩ := lim; ⟨mc, dictB h1, h2⟩⟩
  have TB : ∀ q ∈ cts, TabB (hidT st.heap H) mg q.1 q.2 := fun q hq => by
    obtain ⟨atT, _, cd⟩ := atQ q hq
    refine ⟨?_, ?_, fun z => ?_⟩
    · obtain ⟨o, vs, file, tf, flags, tg, inF, text, tt, e1, r1, r2, r3, more⟩ := cd
      exact ⟨o, vs, file, tf, flags, tg, inF, text, tt, hidT_get e1 (plain e1 (fun vs n z => by rw [r2] at z; cases z) fun z => by rw [r2] at z; cases z; simp at r3), r1, r2, r3, more⟩
    · obtain ⟨bm, ob, b1, b2, b3, b4, b5, b6⟩ := mn
      refine ⟨bm, ob, b1, b2, fun q2 => ?_, fun q2 => ?_, hidT_get b3 (plain b3 (fun vs n z => by rw [b6] at z; cases z) fun z => by rw [b6] at z; cases z), b4, b5, b6⟩
      · obtain ⟨o, es, ep, e, d, _⟩ := gl
        rw [q2, e] at b3
        cases b3
        rw [d] at b6
        cases b6
      · rw [q2, atT] at b3
        cases b3
        cases b6
    · obtain ⟨o, es, ep, e, d, _⟩ := gl
      rw [z, atT] at e
      cases e
      cases d
  have e0 : Env0 P w K mg (hidT st.heap H) callerA [] st H := ⟨rfl, modB, fun b o e => of_hidT e, Nat.le_of_eq (hidT_size _ _), trivial, fun b hb => absurd (show b ∈ ([] : List Addr) from hb) List.not_mem_nil, hok, .of_eq ge⟩
  refine codeAny_mono ((F _ kinB (dictB gl) TB).run callerA [] st H ⟨[.ref a], []⟩ [.ref a] [.ref a] _ _ room e0 (bind st (.ref a)) (.cons rfl .nil) (hsp H (fun q hq => hT q.2 (by rw [hL]; exact List.mem_map.mpr ⟨q, hq, rfl⟩)) hS)) fun r s' h => ?_
  cases r with
  | error e => exact False.elim h
  | ok fl =>
    cases fl with
    | next => exact False.elim h
    | brk => exact False.elim h
    | cont => exact False.elim h
    | ret u =>
      obtain ⟨v, H', os, bare, un, hok2, r2, q⟩ := h
      cases (show v = V.bl true from q)
      cases (show u = Value.bool true from r2)
      have kept : ∀ b o, b ∉ L → st.heap.get? b = some o → s'.heap.get? b = some o := fun b o nb e => by
        rcases hO b with z | z | ⟨ob, ys, z⟩
        · exact un.keep b o e z (fun w => absurd (show b ∈ ([] : List Addr) from w) List.not_mem_nil) fun z => nomatch z
        · exact (nb z).elim
        · obtain ⟨e1, _⟩ := hok b _ z
          obtain ⟨e2, _⟩ := hok2 b _ (un.frzs b ob _ z)
          rw [e] at e1
          cases e1
          exact e2
      have grown : ∀ b ∈ L, ∃ more, s'.heap.get? b = some { cls := .none, data := .fields (#[] ++ more) } := fun b hb => by
        obtain ⟨more, hm⟩ := un.tbls b #[] (hT b hb)
        exact ⟨more, hok2 b _ hm⟩
      refine ⟨rfl, ⟨fun b oo e => ?_, fun b oo e => ?_⟩, os, bare⟩
      · by_cases q : b ∈ L
        · obtain ⟨at1, _, c, cd⟩ := atL b q
          obtain ⟨more, gr⟩ := grown b q
          rw [at1] at e
          cases e
          exact .inr (.inl ⟨(cd.tab at1).isCodeTable, rfl, #[], more, rfl, gr⟩)
        · exact .inl (kept b oo q e)
      · by_cases q : b ∈ L
        · exact let ⟨_, gr⟩ := grown b q; ⟨_, gr⟩
        · exact ⟨oo, kept b oo q e⟩
/-- the row's end: xs names the defs whose codes' tables are tracked -/
theorem walk_tabs {l : PySem.W.OpenLaw} {n k : Nat} {q : Program} {loose : List Str} {XP : (Str → Option Value) → Heap → Prop} {YP : World → Heap → Prop} {d : DefRec} {K : Params → PySem.W.Frag} {sp : World → List Addr → Sp} {x : Str} (xs : List Str)
    (hn : l.most = some n) (hn2 : n ≤ sizeLine) (hdf : d.params.defaults = []) (hr : Room k callerA) (hY : ∀ (w : World) (h : Heap), YP w h → (K w.params).In h) (hd : (xs.all fun y => ((recsOf q).find? fun e => e.name == y).isSome) = true)
    (F : ∀ (w : World) (mg : Str → Option Value) (fa : Addr) (h : Heap), (K w.params).In h → h.Ns mainGlobals mg → mg d.name = some (.ref fa) → ∃ (fd : FuncData) (cts : List (Addr × Addr)), (∀ u ∈ cts, ∃ y ∈ xs, PySem.W.tabIn (K w.params) y = some u ∧ (K w.params).lookup u.2 = none) ∧
      (∀ (s : Shared) (u : Value), BindsTo s fd ⟨[u], []⟩ [(x, u)]) ∧ ∀ base : Heap, (K w.params).In base → base.Ns mainGlobals mg → (∀ u ∈ cts, TabB base mg u.1 u.2) → FnOk l.prog w (K w.params) mg base CX0 k fa fd [x] (sp w (cts.map (·.2))))
    (hsp : ∀ (w : World) (Ts : List Addr) (H : Hp) (a : Addr) (ns : List Int), ns.length ≤ n → (∀ T ∈ Ts, H T = some (.tbl #[])) → SqF (K w.params) H a (ns.map V.int) → sp w Ts [.ref a] H (fun v _ => v = .bl true) fun _ _ _ => False) :
    PySem.W.WalkO q loose XP YP l.row.toRowW d [] (fun g us => PySem.call g us) := by
  refine Att.attach_callB hn hdf fun w s₀ s₁ mg mb fa o pm cd doc a vs ns G Y ho hdat hcd hmg hobj hints hlen hbits hg => ?_
  have kin := hY w _ Y
  obtain ⟨fd, cts, ht, hb, hF⟩ := F w mg fa _ kin G.T.g hmg
  refine call_tabs (cts := cts) kin G.T.g G.T.b G.T.builtins G.T.nolimit hg (fun u hu => ?_) G.T.bmain hobj hints (Nat.le_trans hlen hn2) hr hF hb fun H h1 h2 => hsp w _ H a ns hlen (fun T hT => ?_) h2
  · obtain ⟨y, hy, h1, h2⟩ := ht u hu
    obtain ⟨e, he⟩ := Option.isSome_iff_exists.mp (List.all_eq_true.mp hd y hy)
    obtain ⟨C, atT⟩ := PySem.W.tab_of (c := u.1) (P := u.2) G.T kin he h1
    exact ⟨atT, h2, C⟩
  · obtain ⟨u, hu, rfl⟩ := List.mem_map.mp hT
    exact h1 u hu
end Cc

namespace Cc
open PySem PySem.Spec PyProof.Rows L2
open LamX
theorem dn_mk {P : Program} {w : World} {K : PySem.W.Frag} {mg : Str → Option Value} {base : Heap} {k : Nat} {x : Str} {f : Addr} {fd : FuncData} {ps : List Str} {sp : Sp} (a : mg x = some (.ref f)) (kp : PySem.W.keepIn K (.ref f) = true) (F : FnOk P w K mg base CX0 k f fd ps sp) (b : Binds K fd ps []) :
    Dn P w K mg base k x f sp := ⟨a, kp, (F.raw b .nil).imp fun vs H Q E h => by rw [List.append_nil]; exact h⟩
theorem dnx_mk {P : Program} {w : World} {K : PySem.W.Frag} {mg : Str → Option Value} {base : Heap} {k : Nat} {x : Str} {f : Addr} {fd : FuncData} {ps : List Str} {sp : Sp} (a : mg x = some (.ref f)) (kp : PySem.W.keepIn K (.ref f) = true) (F : FnOk P w K mg base (L2.CX P w) k f fd ps sp) (b : Binds K fd ps []) :
    DnX P w K mg base k x f sp := ⟨a, kp, (F.raw b .nil).imp fun vs H Q E h => by rw [List.append_nil]; exact h⟩
theorem all_mk {P : Program} {w : World} {K : PySem.W.Frag} {h : Heap} {mg : Str → Option Value} {fa C TU pS f_is_whole f_is_number f_check_number f_check_house f_is_step f__law_mix f__law_next f__law_steps f__law_alike f_after_step f_after_steps f_few_rounds f_after_rounds f_check_meeting f_are_steps f_is_operation f_check_operations f__law_told f__law_deed f__law_group_right cL0 PT0 f_law f__law_outcome fminit fmjoined ENotEnough ETooFewChairs BTooFewChairs fITooFewChairs ccTooFewChairs cdaTooFewChairs NTooFewChairs EInvalidOperation BInvalidOperation fIInvalidOperation ccInvalidOperation cdaInvalidOperation NInvalidOperation EInvalidPlan BInvalidPlan fIInvalidPlan ccInvalidPlan cdaInvalidPlan NInvalidPlan fmst : Addr} (X : K.In h) (G : h.Ns mainGlobals mg) (hfa : mg "law" = some (.ref fa))
    {od_is_whole an_is_whole od_is_number an_is_number od_check_number an_check_number od_check_house an_check_house od_is_step an_is_step od__law_mix an__law_mix od__law_next an__law_next od__law_steps an__law_steps od__law_alike an__law_alike od_after_step an_after_step od_after_steps an_after_steps od_few_rounds an_few_rounds od_after_rounds an_after_rounds od_check_meeting an_check_meeting od_are_steps an_are_steps od_is_operation an_is_operation od_check_operations an_check_operations od__law_told an__law_told od__law_deed an__law_deed od__law_group_right an__law_group_right dC0 od_law an_law od__law_outcome an__law_outcome odminit anminit odmjoined anmjoined odTooFewChairs anTooFewChairs cldTooFewChairs cddTooFewChairs ddTooFewChairs odInvalidOperation anInvalidOperation cldInvalidOperation cddInvalidOperation ddInvalidOperation odInvalidPlan anInvalidPlan cldInvalidPlan cddInvalidPlan ddInvalidPlan odmst anmst dT : Option Addr} {sl_is_whole sl_is_number sl_check_number sl_check_house sl_is_step sl__law_mix sl__law_next sl__law_steps sl__law_alike sl_after_step sl_after_steps sl_few_rounds sl_after_rounds sl_check_meeting sl_are_steps sl_is_operation sl_check_operations sl__law_told sl__law_deed sl__law_group_right slC0 sl_law sl__law_outcome slminit slmjoined slTooFewChairs cslTooFewChairs ccsTooFewChairs slInvalidOperation cslInvalidOperation ccsInvalidOperation slInvalidPlan cslInvalidPlan ccsInvalidPlan slmst slT : Array (Option Value)} {oc_is_whole kV_is_whole dc_is_whole pm_is_whole cd_is_whole ct_is_whole oc_is_number kV_is_number dc_is_number pm_is_number cd_is_number ct_is_number oc_check_number kV_check_number dc_check_number pm_check_number cd_check_number ct_check_number oc_check_house kV_check_house dc_check_house pm_check_house cd_check_house ct_check_house oc_is_step kV_is_step dc_is_step pm_is_step cd_is_step ct_is_step oc__law_mix kV__law_mix dc__law_mix pm__law_mix cd__law_mix ct__law_mix oc__law_next kV__law_next dc__law_next pm__law_next cd__law_next ct__law_next oc__law_steps kV__law_steps dc__law_steps pm__law_steps cd__law_steps ct__law_steps oc__law_alike kV__law_alike dc__law_alike pm__law_alike cd__law_alike ct__law_alike oc_after_step kV_after_step dc_after_step pm_after_step cd_after_step ct_after_step oc_after_steps kV_after_steps dc_after_steps pm_after_steps cd_after_steps ct_after_steps oc_few_rounds kV_few_rounds dc_few_rounds pm_few_rounds cd_few_rounds ct_few_rounds oc_after_rounds kV_after_rounds dc_after_rounds pm_after_rounds cd_after_rounds ct_after_rounds oc_check_meeting kV_check_meeting dc_check_meeting pm_check_meeting cd_check_meeting ct_check_meeting oc_are_steps kV_are_steps dc_are_steps pm_are_steps cd_are_steps ct_are_steps oc_is_operation kV_is_operation dc_is_operation pm_is_operation cd_is_operation ct_is_operation oc_check_operations kV_check_operations dc_check_operations pm_check_operations cd_check_operations ct_check_operations oc__law_told kV__law_told dc__law_told pm__law_told cd__law_told ct__law_told oc__law_deed kV__law_deed dc__law_deed pm__law_deed cd__law_deed ct__law_deed oc__law_group_right kV__law_group_right dc__law_group_right pm__law_group_right ct__law_group_right oC0 oc_law kV_law dc_law pm_law cd_law ct_law oc__law_outcome kV__law_outcome dc__law_outcome pm__law_outcome cd__law_outcome ct__law_outcome ocminit kVminit dcminit pmminit cdminit ctminit ocmjoined kVmjoined dcmjoined pmmjoined cdmjoined ctmjoined ocTooFewChairs kVTooFewChairs dcTooFewChairs pmTooFewChairs ctTooFewChairs clTooFewChairs cclTooFewChairs ocInvalidOperation kVInvalidOperation dcInvalidOperation pmInvalidOperation ctInvalidOperation clInvalidOperation cclInvalidOperation ocInvalidPlan kVInvalidPlan dcInvalidPlan pmInvalidPlan ctInvalidPlan clInvalidPlan cclInvalidPlan ocmst kVmst dcmst pmmst cdmst ctmst : Value} {rs : List Value} {t1 t2 t3 t4 t_MAX_ROUNDS : Tok} {nT : Nat} {vC0 : Array Value} {nmTooFewChairs qTooFewChairs t1TooFewChairs t2TooFewChairs fileTooFewChairs : Str} {bsTooFewChairs subTooFewChairs : List Value} {snTooFewChairs : List Str} {abTooFewChairs : Bool} {colTooFewChairs : Option Bool} {m0TooFewChairs m1TooFewChairs m2TooFewChairs m3TooFewChairs m5TooFewChairs : Option Value} {vsTooFewChairs : Array Value} {tkTooFewChairs : Tok} {p1TooFewChairs p2TooFewChairs a1TooFewChairs a2TooFewChairs a3TooFewChairs a4TooFewChairs a5TooFewChairs a6TooFewChairs a7TooFewChairs a8TooFewChairs a9TooFewChairs a10TooFewChairs b1TooFewChairs b2TooFewChairs b3TooFewChairs b4TooFewChairs : Pos} {nmInvalidOperation qInvalidOperation t1InvalidOperation t2InvalidOperation fileInvalidOperation : Str} {bsInvalidOperation subInvalidOperation : List Value} {snInvalidOperation : List Str} {abInvalidOperation : Bool} {colInvalidOperation : Option Bool} {m0InvalidOperation m1InvalidOperation m2InvalidOperation m3InvalidOperation m5InvalidOperation : Option Value} {vsInvalidOperation : Array Value} {tkInvalidOperation : Tok} {p1InvalidOperation p2InvalidOperation a1InvalidOperation a2InvalidOperation a3InvalidOperation a4InvalidOperation a5InvalidOperation a6InvalidOperation a7InvalidOperation a8InvalidOperation a9InvalidOperation a10InvalidOperation b1InvalidOperation b2InvalidOperation b3InvalidOperation b4InvalidOperation : Pos} {nmInvalidPlan qInvalidPlan t1InvalidPlan t2InvalidPlan fileInvalidPlan : Str} {bsInvalidPlan subInvalidPlan : List Value} {snInvalidPlan : List Str} {abInvalidPlan : Bool} {colInvalidPlan : Option Bool} {m0InvalidPlan m1InvalidPlan m2InvalidPlan m3InvalidPlan m5InvalidPlan : Option Value} {vsInvalidPlan : Array Value} {tkInvalidPlan : Tok} {p1InvalidPlan p2InvalidPlan a1InvalidPlan a2InvalidPlan a3InvalidPlan a4InvalidPlan a5InvalidPlan a6InvalidPlan a7InvalidPlan a8InvalidPlan a9InvalidPlan a10InvalidPlan b1InvalidPlan b2InvalidPlan b3InvalidPlan b4InvalidPlan : Pos} {CM CH fmi fhi kDhi fac fmo fru fme ftu frc fnd frd fap fpf fre Pre fbl Pbl ftm Ptm fiu Piu fhy Phy fit Pit frp Prp eDa eDe eBo eNu eTe CE : Addr} {odmi anmi odhi anhi odac anac odmo anmo odru anru odme anme odtu antu odrc anrc odnd annd odrd anrd odap anap odpf anpf odre anre odbl anbl odtm antm odiu aniu odhy anhy odit anit odrp anrp : Option Addr} {slmi slhi slac slmo slru slme sltu slrc slnd slrd slap slpf slre slbl sltm sliu slhy slit slrp : Array (Option Value)} {ocmi kVmi dcmi pmmi cdmi ctmi ochi dchi pmhi cdhi cthi ocac kVac dcac pmac cdac ctac ocmo kVmo dcmo pmmo cdmo ctmo ocru kVru dcru pmru cdru ctru ocme kVme dcme pmme cdme ctme octu kVtu dctu pmtu cdtu cttu ocrc kVrc dcrc pmrc cdrc ctrc ocnd kVnd dcnd pmnd cdnd ctnd ocrd kVrd dcrd pmrd cdrd ctrd ocap kVap dcap pmap cdap ctap ocpf kVpf dcpf pmpf cdpf ctpf ocre kVre dcre pmre cdre ctre ocbl kVbl dcbl pmbl cdbl ctbl octm kVtm dctm pmtm cdtm cttm ociu kViu dciu pmiu cdiu ctiu ochy kVhy dchy pmhy cdhy cthy ocit kVit dcit pmit cdit ctit ocrp kVrp dcrp pmrp cdrp ctrp : Value} {rsre rsbl rstm rsiu rshy rsit rsrp : List Value} {tkr : Tok}
    (a_is_whole : PySem.W.nsIn K mainGlobals "is_whole" = some (some (.ref f_is_whole)))
    (l_is_whole : K.lookup f_is_whole = some ⟨oc_is_whole, od_is_whole, .func (PySem.W.fnOf "is_whole" "is_whole" (defArgs sIsWhole) (defBody sIsWhole) (defScope sIsWhole) .none kV_is_whole dc_is_whole pm_is_whole an_is_whole cd_is_whole ct_is_whole), sl_is_whole⟩)
    (c_is_whole : PySem.W.codeIn K cd_is_whole "is_whole" = true)
    (k_is_whole : PySem.W.keepIn K (.ref f_is_whole) = true)
    (a_is_number : PySem.W.nsIn K mainGlobals "is_number" = some (some (.ref f_is_number)))
    (l_is_number : K.lookup f_is_number = some ⟨oc_is_number, od_is_number, .func (PySem.W.fnOf "is_number" "is_number" (defArgs sIsNum) (defBody sIsNum) (defScope sIsNum) .none kV_is_number dc_is_number pm_is_number an_is_number cd_is_number ct_is_number), sl_is_number⟩)
    (c_is_number : PySem.W.codeIn K cd_is_number "is_number" = true)
    (k_is_number : PySem.W.keepIn K (.ref f_is_number) = true)
    (a_check_number : PySem.W.nsIn K mainGlobals "check_number" = some (some (.ref f_check_number)))
    (l_check_number : K.lookup f_check_number = some ⟨oc_check_number, od_check_number, .func (PySem.W.fnOf "check_number" "check_number" (defArgs sChkNum) (defBody sChkNum) (defScope sChkNum) .none kV_check_number dc_check_number pm_check_number an_check_number cd_check_number ct_check_number), sl_check_number⟩)
    (c_check_number : PySem.W.codeIn K cd_check_number "check_number" = true)
    (k_check_number : PySem.W.keepIn K (.ref f_check_number) = true)
    (a_check_house : PySem.W.nsIn K mainGlobals "check_house" = some (some (.ref f_check_house)))
    (l_check_house : K.lookup f_check_house = some ⟨oc_check_house, od_check_house, .func (PySem.W.fnOf "check_house" "check_house" (defArgs sChkHouse) (defBody sChkHouse) (defScope sChkHouse) .none kV_check_house dc_check_house pm_check_house an_check_house cd_check_house ct_check_house), sl_check_house⟩)
    (c_check_house : PySem.W.codeIn K cd_check_house "check_house" = true)
    (k_check_house : PySem.W.keepIn K (.ref f_check_house) = true)
    (a_is_step : PySem.W.nsIn K mainGlobals "is_step" = some (some (.ref f_is_step)))
    (l_is_step : K.lookup f_is_step = some ⟨oc_is_step, od_is_step, .func (PySem.W.fnOf "is_step" "is_step" (defArgs sIsStep) (defBody sIsStep) (defScope sIsStep) .none kV_is_step dc_is_step pm_is_step an_is_step cd_is_step ct_is_step), sl_is_step⟩)
    (c_is_step : PySem.W.codeIn K cd_is_step "is_step" = true)
    (k_is_step : PySem.W.keepIn K (.ref f_is_step) = true)
    (a__law_mix : PySem.W.nsIn K mainGlobals "_law_mix" = some (some (.ref f__law_mix)))
    (l__law_mix : K.lookup f__law_mix = some ⟨oc__law_mix, od__law_mix, .func (PySem.W.fnOf "_law_mix" "_law_mix" (defArgs s__law_mix) (defBody s__law_mix) (defScope s__law_mix) .none kV__law_mix dc__law_mix pm__law_mix an__law_mix cd__law_mix ct__law_mix), sl__law_mix⟩)
    (c__law_mix : PySem.W.codeIn K cd__law_mix "_law_mix" = true)
    (k__law_mix : PySem.W.keepIn K (.ref f__law_mix) = true)
    (a__law_next : PySem.W.nsIn K mainGlobals "_law_next" = some (some (.ref f__law_next)))
    (l__law_next : K.lookup f__law_next = some ⟨oc__law_next, od__law_next, .func (PySem.W.fnOf "_law_next" "_law_next" (defArgs s__law_next) (defBody s__law_next) (defScope s__law_next) .none kV__law_next dc__law_next pm__law_next an__law_next cd__law_next ct__law_next), sl__law_next⟩)
    (c__law_next : PySem.W.codeIn K cd__law_next "_law_next" = true)
    (k__law_next : PySem.W.keepIn K (.ref f__law_next) = true)
    (a__law_steps : PySem.W.nsIn K mainGlobals "_law_steps" = some (some (.ref f__law_steps)))
    (l__law_steps : K.lookup f__law_steps = some ⟨oc__law_steps, od__law_steps, .func (PySem.W.fnOf "_law_steps" "_law_steps" (defArgs s__law_steps) (defBody s__law_steps) (defScope s__law_steps) .none kV__law_steps dc__law_steps pm__law_steps an__law_steps cd__law_steps ct__law_steps), sl__law_steps⟩)
    (c__law_steps : PySem.W.codeIn K cd__law_steps "_law_steps" = true)
    (k__law_steps : PySem.W.keepIn K (.ref f__law_steps) = true)
    (a__law_alike : PySem.W.nsIn K mainGlobals "_law_alike" = some (some (.ref f__law_alike)))
    (l__law_alike : K.lookup f__law_alike = some ⟨oc__law_alike, od__law_alike, .func (PySem.W.fnOf "_law_alike" "_law_alike" (defArgs sAlike) (defBody sAlike) (defScope sAlike) .none kV__law_alike dc__law_alike pm__law_alike an__law_alike cd__law_alike ct__law_alike), sl__law_alike⟩)
    (c__law_alike : PySem.W.codeIn K cd__law_alike "_law_alike" = true)
    (k__law_alike : PySem.W.keepIn K (.ref f__law_alike) = true)
    (a_after_step : PySem.W.nsIn K mainGlobals "after_step" = some (some (.ref f_after_step)))
    (l_after_step : K.lookup f_after_step = some ⟨oc_after_step, od_after_step, .func (PySem.W.fnOf "after_step" "after_step" (defArgs sAStep) (defBody sAStep) (defScope sAStep) .none kV_after_step dc_after_step pm_after_step an_after_step cd_after_step ct_after_step), sl_after_step⟩)
    (c_after_step : PySem.W.codeIn K cd_after_step "after_step" = true)
    (k_after_step : PySem.W.keepIn K (.ref f_after_step) = true)
    (a_after_steps : PySem.W.nsIn K mainGlobals "after_steps" = some (some (.ref f_after_steps)))
    (l_after_steps : K.lookup f_after_steps = some ⟨oc_after_steps, od_after_steps, .func (PySem.W.fnOf "after_steps" "after_steps" (defArgs sASteps) (defBody sASteps) (defScope sASteps) .none kV_after_steps dc_after_steps pm_after_steps an_after_steps cd_after_steps ct_after_steps), sl_after_steps⟩)
    (c_after_steps : PySem.W.codeIn K cd_after_steps "after_steps" = true)
    (k_after_steps : PySem.W.keepIn K (.ref f_after_steps) = true)
    (a_few_rounds : PySem.W.nsIn K mainGlobals "few_rounds" = some (some (.ref f_few_rounds)))
    (l_few_rounds : K.lookup f_few_rounds = some ⟨oc_few_rounds, od_few_rounds, .func (PySem.W.fnOf "few_rounds" "few_rounds" (defArgs s_few_rounds) (defBody s_few_rounds) (defScope s_few_rounds) .none kV_few_rounds dc_few_rounds pm_few_rounds an_few_rounds cd_few_rounds ct_few_rounds), sl_few_rounds⟩)
    (c_few_rounds : PySem.W.codeIn K cd_few_rounds "few_rounds" = true)
    (k_few_rounds : PySem.W.keepIn K (.ref f_few_rounds) = true)
    (a_after_rounds : PySem.W.nsIn K mainGlobals "after_rounds" = some (some (.ref f_after_rounds)))
    (l_after_rounds : K.lookup f_after_rounds = some ⟨oc_after_rounds, od_after_rounds, .func (PySem.W.fnOf "after_rounds" "after_rounds" (defArgs s_after_rounds) (defBody s_after_rounds) (defScope s_after_rounds) .none kV_after_rounds dc_after_rounds pm_after_rounds an_after_rounds cd_after_rounds ct_after_rounds), sl_after_rounds⟩)
    (c_after_rounds : PySem.W.codeIn K cd_after_rounds "after_rounds" = true)
    (k_after_rounds : PySem.W.keepIn K (.ref f_after_rounds) = true)
    (a_check_meeting : PySem.W.nsIn K mainGlobals "check_meeting" = some (some (.ref f_check_meeting)))
    (l_check_meeting : K.lookup f_check_meeting = some ⟨oc_check_meeting, od_check_meeting, .func (PySem.W.fnOf "check_meeting" "check_meeting" (defArgs s_check_meeting) (defBody s_check_meeting) (defScope s_check_meeting) .none kV_check_meeting dc_check_meeting pm_check_meeting an_check_meeting cd_check_meeting ct_check_meeting), sl_check_meeting⟩)
    (c_check_meeting : PySem.W.codeIn K cd_check_meeting "check_meeting" = true)
    (k_check_meeting : PySem.W.keepIn K (.ref f_check_meeting) = true)
    (a_are_steps : PySem.W.nsIn K mainGlobals "are_steps" = some (some (.ref f_are_steps)))
    (l_are_steps : K.lookup f_are_steps = some ⟨oc_are_steps, od_are_steps, .func (PySem.W.fnOf "are_steps" "are_steps" (defArgs s_are_steps) (defBody s_are_steps) (defScope s_are_steps) .none kV_are_steps dc_are_steps pm_are_steps an_are_steps cd_are_steps ct_are_steps), sl_are_steps⟩)
    (c_are_steps : PySem.W.codeIn K cd_are_steps "are_steps" = true)
    (k_are_steps : PySem.W.keepIn K (.ref f_are_steps) = true)
    (a_is_operation : PySem.W.nsIn K mainGlobals "is_operation" = some (some (.ref f_is_operation)))
    (l_is_operation : K.lookup f_is_operation = some ⟨oc_is_operation, od_is_operation, .func (PySem.W.fnOf "is_operation" "is_operation" (defArgs s_is_operation) (defBody s_is_operation) (defScope s_is_operation) .none kV_is_operation dc_is_operation pm_is_operation an_is_operation cd_is_operation ct_is_operation), sl_is_operation⟩)
    (c_is_operation : PySem.W.codeIn K cd_is_operation "is_operation" = true)
    (k_is_operation : PySem.W.keepIn K (.ref f_is_operation) = true)
    (a_check_operations : PySem.W.nsIn K mainGlobals "check_operations" = some (some (.ref f_check_operations)))
    (l_check_operations : K.lookup f_check_operations = some ⟨oc_check_operations, od_check_operations, .func (PySem.W.fnOf "check_operations" "check_operations" (defArgs s_check_operations) (defBody s_check_operations) (defScope s_check_operations) .none kV_check_operations dc_check_operations pm_check_operations an_check_operations cd_check_operations ct_check_operations), sl_check_operations⟩)
    (c_check_operations : PySem.W.codeIn K cd_check_operations "check_operations" = true)
    (k_check_operations : PySem.W.keepIn K (.ref f_check_operations) = true)
    (a__law_told : PySem.W.nsIn K mainGlobals "_law_told" = some (some (.ref f__law_told)))
    (l__law_told : K.lookup f__law_told = some ⟨oc__law_told, od__law_told, .func (PySem.W.fnOf "_law_told" "_law_told" (defArgs s__law_told) (defBody s__law_told) (defScope s__law_told) .none kV__law_told dc__law_told pm__law_told an__law_told cd__law_told ct__law_told), sl__law_told⟩)
    (c__law_told : PySem.W.codeIn K cd__law_told "_law_told" = true)
    (k__law_told : PySem.W.keepIn K (.ref f__law_told) = true)
    (a__law_deed : PySem.W.nsIn K mainGlobals "_law_deed" = some (some (.ref f__law_deed)))
    (l__law_deed : K.lookup f__law_deed = some ⟨oc__law_deed, od__law_deed, .func (PySem.W.fnOf "_law_deed" "_law_deed" (defArgs s__law_deed) (defBody s__law_deed) (defScope s__law_deed) .none kV__law_deed dc__law_deed pm__law_deed an__law_deed cd__law_deed ct__law_deed), sl__law_deed⟩)
    (c__law_deed : PySem.W.codeIn K cd__law_deed "_law_deed" = true)
    (k__law_deed : PySem.W.keepIn K (.ref f__law_deed) = true)
    (a__law_group_right : PySem.W.nsIn K mainGlobals "_law_group_right" = some (some (.ref f__law_group_right)))
    (l__law_group_right : K.lookup f__law_group_right = some ⟨oc__law_group_right, od__law_group_right, .func (PySem.W.fnOf "_law_group_right" "_law_group_right" (defArgs s__law_group_right) (defBody s__law_group_right) (defScope s__law_group_right) .none kV__law_group_right dc__law_group_right pm__law_group_right an__law_group_right (.ref cL0) ct__law_group_right), sl__law_group_right⟩)
    (c__law_group_right : PySem.W.codeIn K (.ref cL0) "_law_group_right" = true)
    (lC0 : K.lookup cL0 = some ⟨oC0, dC0, .fields vC0, slC0⟩)
    (v110 : vC0[11]? = some (.ref PT0))
    (tN0 : K.lookup PT0 = none)
    (k__law_group_right : PySem.W.keepIn K (.ref f__law_group_right) = true)
    (a_law : PySem.W.nsIn K mainGlobals "law" = some (some (.ref f_law)))
    (l_law : K.lookup f_law = some ⟨oc_law, od_law, .func (PySem.W.fnOf "law" "law" (defArgs s_law) (defBody s_law) (defScope s_law) .none kV_law dc_law pm_law an_law cd_law ct_law), sl_law⟩)
    (c_law : PySem.W.codeIn K cd_law "law" = true)
    (k_law : PySem.W.keepIn K (.ref f_law) = true)
    (a__law_outcome : PySem.W.nsIn K mainGlobals "_law_outcome" = some (some (.ref f__law_outcome)))
    (l__law_outcome : K.lookup f__law_outcome = some ⟨oc__law_outcome, od__law_outcome, .func (PySem.W.fnOf "_law_outcome" "_law_outcome" (defArgs sOutcome) (defBody sOutcome) (defScope sOutcome) .none kV__law_outcome dc__law_outcome pm__law_outcome an__law_outcome cd__law_outcome ct__law_outcome), sl__law_outcome⟩)
    (c__law_outcome : PySem.W.codeIn K cd__law_outcome "_law_outcome" = true)
    (k__law_outcome : PySem.W.keepIn K (.ref f__law_outcome) = true)
    (aC : PySem.W.nsIn K mainGlobals "Plan" = some (some (.ref C)))
    (aminit : PySem.W.findIn K (.ref C) "__init__" = some (some (.ref fminit)))
    (iminit : PySem.W.isFn K (.ref fminit) = true)
    (lminit : K.lookup fminit = some ⟨ocminit, odminit, .func (PySem.W.fnOf "__init__" "Plan.__init__" (defArgs sInit) (defBody sInit) (defScope sInit) .none kVminit dcminit pmminit anminit cdminit ctminit), slminit⟩)
    (cminit : PySem.W.codeIn K cdminit "Plan.__init__" = true)
    (kminit : PySem.W.keepIn K (.ref fminit) = true)
    (amjoined : PySem.W.findIn K (.ref C) "joined" = some (some (.ref fmjoined)))
    (imjoined : PySem.W.isFn K (.ref fmjoined) = true)
    (lmjoined : K.lookup fmjoined = some ⟨ocmjoined, odmjoined, .func (PySem.W.fnOf "joined" "Plan.joined" (defArgs sJoined) (defBody sJoined) (defScope sJoined) .none kVmjoined dcmjoined pmmjoined anmjoined cdmjoined ctmjoined), slmjoined⟩)
    (cmjoined : PySem.W.codeIn K cdmjoined "Plan.joined" = true)
    (kmjoined : PySem.W.keepIn K (.ref fmjoined) = true)
    (gNotEnough : PySem.W.nsIn K mainGlobals "NotEnough" = some (some (.ref ENotEnough)))
    (xNotEnough : PySem.W.excIn K ENotEnough [.type "ValueError", .type "Exception", .type "BaseException", .type "object"] "ValueError.__new__" = true)
    (kNotEnough : PySem.W.keepIn K (.ref ENotEnough) = true)
    (bNotEnough : PySem.W.subIn K (.ref ENotEnough) (.type "BaseException") = some true)
    (tNotEnough : PySem.W.typeIn K (.ref ENotEnough) = some (.type "type"))
    (iNotEnough : PySem.W.isClsIn K ENotEnough = true)
    (sNotEnough : PySem.W.subIn K (.ref ENotEnough) (.ref ENotEnough) = some true)
    (nNotEnough : PySem.W.subIn K (.ref ENotEnough) (.type "StopIteration") = some false)
    (gTooFewChairs : PySem.W.nsIn K mainGlobals "TooFewChairs" = some (some (.ref ETooFewChairs)))
    (xTooFewChairs : K.lookup ETooFewChairs = some (excClassObj nmTooFewChairs qTooFewChairs ETooFewChairs NTooFewChairs bsTooFewChairs [.ref BTooFewChairs, .type "ValueError", .type "Exception", .type "BaseException", .type "object"] true snTooFewChairs subTooFewChairs abTooFewChairs colTooFewChairs ddTooFewChairs m0TooFewChairs m1TooFewChairs m2TooFewChairs m3TooFewChairs m5TooFewChairs "ValueError.__new__"))
    (kTooFewChairs : PySem.W.keepIn K (.ref ETooFewChairs) = true)
    (saTooFewChairs : PySem.W.findIn K (.ref ETooFewChairs) "__setattr__" = some (some (.builtin "object.__setattr__")))
    (gaTooFewChairs : PySem.W.findIn K (.ref ETooFewChairs) "__getattribute__" = some (some (.builtin "BaseException.__getattribute__")))
    (ggTooFewChairs : PySem.W.findIn K (.ref ETooFewChairs) "__getattr__" = some none)
    (nbTooFewChairs : PySem.W.findIn K (.ref ETooFewChairs) "index" = some none)
    (iTooFewChairs : PySem.W.findIn K (.ref ETooFewChairs) "__init__" = some (some (.ref fITooFewChairs)))
    (tfTooFewChairs : PySem.W.typeIn K (.ref fITooFewChairs) = some (.type "function"))
    (bTooFewChairs : PySem.W.subIn K (.ref ETooFewChairs) (.type "BaseException") = some true)
    (tTooFewChairs : PySem.W.typeIn K (.ref ETooFewChairs) = some (.type "type"))
    (hdTooFewChairs : PySem.W.hasDictIn K ETooFewChairs = true)
    (icTooFewChairs : PySem.W.isClsIn K ETooFewChairs = true)
    (sTooFewChairs : PySem.W.subIn K (.ref ETooFewChairs) (.ref ETooFewChairs) = some true)
    (svTooFewChairs : PySem.W.subIn K (.ref ETooFewChairs) (.type "ValueError") = some true)
    (suTooFewChairs : PySem.W.ks_superIn K ETooFewChairs ETooFewChairs "__init__" = some (some (.builtin "ValueError.__init__")))
    (opTooFewChairs : PySem.W.nsIn K cStatics "thirdparty.any" = some none)
    (zsTooFewChairs : PySem.W.nsIn K mainGlobals "super" = some none)
    (htTooFewChairs : (P.main.scope.names.lookup ("super" : Str)).isSome = false)
    (lTooFewChairs : K.lookup fITooFewChairs = some ⟨ocTooFewChairs, odTooFewChairs, .func (PySem.W.ksFn "__init__" "TooFewChairs.__init__" (PySem.EiX.iA p1TooFewChairs p2TooFewChairs) (PySem.EiX.iB t1TooFewChairs t2TooFewChairs a1TooFewChairs a2TooFewChairs a3TooFewChairs a4TooFewChairs a5TooFewChairs a6TooFewChairs a7TooFewChairs a8TooFewChairs a9TooFewChairs a10TooFewChairs b1TooFewChairs b2TooFewChairs b3TooFewChairs b4TooFewChairs) PySem.EiX.iS .none kVTooFewChairs dcTooFewChairs pmTooFewChairs anTooFewChairs (.ref cdaTooFewChairs) ctTooFewChairs ccTooFewChairs), slTooFewChairs⟩)
    (cTooFewChairs : PySem.W.codeIn K (.ref cdaTooFewChairs) "TooFewChairs.__init__" = true)
    (lcTooFewChairs : K.lookup ccTooFewChairs = some ⟨clTooFewChairs, cldTooFewChairs, .cell (some (.ref ETooFewChairs)), cslTooFewChairs⟩)
    (ldTooFewChairs : K.lookup cdaTooFewChairs = some ⟨cclTooFewChairs, cddTooFewChairs, .fields vsTooFewChairs, ccsTooFewChairs⟩)
    (vfTooFewChairs : vsTooFewChairs[2]? = some (.str fileTooFewChairs tkTooFewChairs))
    (fiTooFewChairs : ((P.main.file : Str) == fileTooFewChairs) = true)
    (u1TooFewChairs : t1TooFewChairs.length ≤ 1000)
    (u2TooFewChairs : t2TooFewChairs.length ≤ 1000)
    (lnTooFewChairs : (a3TooFewChairs.endLine == a9TooFewChairs.line) = true)
    (gInvalidOperation : PySem.W.nsIn K mainGlobals "InvalidOperation" = some (some (.ref EInvalidOperation)))
    (xInvalidOperation : K.lookup EInvalidOperation = some (excClassObj nmInvalidOperation qInvalidOperation EInvalidOperation NInvalidOperation bsInvalidOperation [.ref BInvalidOperation, .type "ValueError", .type "Exception", .type "BaseException", .type "object"] true snInvalidOperation subInvalidOperation abInvalidOperation colInvalidOperation ddInvalidOperation m0InvalidOperation m1InvalidOperation m2InvalidOperation m3InvalidOperation m5InvalidOperation "ValueError.__new__"))
    (kInvalidOperation : PySem.W.keepIn K (.ref EInvalidOperation) = true)
    (saInvalidOperation : PySem.W.findIn K (.ref EInvalidOperation) "__setattr__" = some (some (.builtin "object.__setattr__")))
    (gaInvalidOperation : PySem.W.findIn K (.ref EInvalidOperation) "__getattribute__" = some (some (.builtin "BaseException.__getattribute__")))
    (ggInvalidOperation : PySem.W.findIn K (.ref EInvalidOperation) "__getattr__" = some none)
    (nbInvalidOperation : PySem.W.findIn K (.ref EInvalidOperation) "index" = some none)
    (iInvalidOperation : PySem.W.findIn K (.ref EInvalidOperation) "__init__" = some (some (.ref fIInvalidOperation)))
    (tfInvalidOperation : PySem.W.typeIn K (.ref fIInvalidOperation) = some (.type "function"))
    (bInvalidOperation : PySem.W.subIn K (.ref EInvalidOperation) (.type "BaseException") = some true)
    (tInvalidOperation : PySem.W.typeIn K (.ref EInvalidOperation) = some (.type "type"))
    (hdInvalidOperation : PySem.W.hasDictIn K EInvalidOperation = true)
    (icInvalidOperation : PySem.W.isClsIn K EInvalidOperation = true)
    (sInvalidOperation : PySem.W.subIn K (.ref EInvalidOperation) (.ref EInvalidOperation) = some true)
    (svInvalidOperation : PySem.W.subIn K (.ref EInvalidOperation) (.type "ValueError") = some true)
    (suInvalidOperation : PySem.W.ks_superIn K EInvalidOperation EInvalidOperation "__init__" = some (some (.builtin "ValueError.__init__")))
    (opInvalidOperation : PySem.W.nsIn K cStatics "thirdparty.any" = some none)
    (zsInvalidOperation : PySem.W.nsIn K mainGlobals "super" = some none)
    (htInvalidOperation : (P.main.scope.names.lookup ("super" : Str)).isSome = false)
    (lInvalidOperation : K.lookup fIInvalidOperation = some ⟨ocInvalidOperation, odInvalidOperation, .func (PySem.W.ksFn "__init__" "InvalidOperation.__init__" (PySem.EiX.iA p1InvalidOperation p2InvalidOperation) (PySem.EiX.iB t1InvalidOperation t2InvalidOperation a1InvalidOperation a2InvalidOperation a3InvalidOperation a4InvalidOperation a5InvalidOperation a6InvalidOperation a7InvalidOperation a8InvalidOperation a9InvalidOperation a10InvalidOperation b1InvalidOperation b2InvalidOperation b3InvalidOperation b4InvalidOperation) PySem.EiX.iS .none kVInvalidOperation dcInvalidOperation pmInvalidOperation anInvalidOperation (.ref cdaInvalidOperation) ctInvalidOperation ccInvalidOperation), slInvalidOperation⟩)
    (cInvalidOperation : PySem.W.codeIn K (.ref cdaInvalidOperation) "InvalidOperation.__init__" = true)
    (lcInvalidOperation : K.lookup ccInvalidOperation = some ⟨clInvalidOperation, cldInvalidOperation, .cell (some (.ref EInvalidOperation)), cslInvalidOperation⟩)
    (ldInvalidOperation : K.lookup cdaInvalidOperation = some ⟨cclInvalidOperation, cddInvalidOperation, .fields vsInvalidOperation, ccsInvalidOperation⟩)
    (vfInvalidOperation : vsInvalidOperation[2]? = some (.str fileInvalidOperation tkInvalidOperation))
    (fiInvalidOperation : ((P.main.file : Str) == fileInvalidOperation) = true)
    (u1InvalidOperation : t1InvalidOperation.length ≤ 1000)
    (u2InvalidOperation : t2InvalidOperation.length ≤ 1000)
    (lnInvalidOperation : (a3InvalidOperation.endLine == a9InvalidOperation.line) = true)
    (gInvalidPlan : PySem.W.nsIn K mainGlobals "InvalidPlan" = some (some (.ref EInvalidPlan)))
    (xInvalidPlan : K.lookup EInvalidPlan = some (excClassObj nmInvalidPlan qInvalidPlan EInvalidPlan NInvalidPlan bsInvalidPlan [.ref BInvalidPlan, .type "ValueError", .type "Exception", .type "BaseException", .type "object"] true snInvalidPlan subInvalidPlan abInvalidPlan colInvalidPlan ddInvalidPlan m0InvalidPlan m1InvalidPlan m2InvalidPlan m3InvalidPlan m5InvalidPlan "ValueError.__new__"))
    (kInvalidPlan : PySem.W.keepIn K (.ref EInvalidPlan) = true)
    (saInvalidPlan : PySem.W.findIn K (.ref EInvalidPlan) "__setattr__" = some (some (.builtin "object.__setattr__")))
    (gaInvalidPlan : PySem.W.findIn K (.ref EInvalidPlan) "__getattribute__" = some (some (.builtin "BaseException.__getattribute__")))
    (ggInvalidPlan : PySem.W.findIn K (.ref EInvalidPlan) "__getattr__" = some none)
    (nbInvalidPlan : PySem.W.findIn K (.ref EInvalidPlan) "index" = some none)
    (iInvalidPlan : PySem.W.findIn K (.ref EInvalidPlan) "__init__" = some (some (.ref fIInvalidPlan)))
    (tfInvalidPlan : PySem.W.typeIn K (.ref fIInvalidPlan) = some (.type "function"))
    (bInvalidPlan : PySem.W.subIn K (.ref EInvalidPlan) (.type "BaseException") = some true)
    (tInvalidPlan : PySem.W.typeIn K (.ref EInvalidPlan) = some (.type "type"))
    (hdInvalidPlan : PySem.W.hasDictIn K EInvalidPlan = true)
    (icInvalidPlan : PySem.W.isClsIn K EInvalidPlan = true)
    (sInvalidPlan : PySem.W.subIn K (.ref EInvalidPlan) (.ref EInvalidPlan) = some true)
    (svInvalidPlan : PySem.W.subIn K (.ref EInvalidPlan) (.type "ValueError") = some true)
    (suInvalidPlan : PySem.W.ks_superIn K EInvalidPlan EInvalidPlan "__init__" = some (some (.builtin "ValueError.__init__")))
    (opInvalidPlan : PySem.W.nsIn K cStatics "thirdparty.any" = some none)
    (zsInvalidPlan : PySem.W.nsIn K mainGlobals "super" = some none)
    (htInvalidPlan : (P.main.scope.names.lookup ("super" : Str)).isSome = false)
    (lInvalidPlan : K.lookup fIInvalidPlan = some ⟨ocInvalidPlan, odInvalidPlan, .func (PySem.W.ksFn "__init__" "InvalidPlan.__init__" (PySem.EiX.iA p1InvalidPlan p2InvalidPlan) (PySem.EiX.iB t1InvalidPlan t2InvalidPlan a1InvalidPlan a2InvalidPlan a3InvalidPlan a4InvalidPlan a5InvalidPlan a6InvalidPlan a7InvalidPlan a8InvalidPlan a9InvalidPlan a10InvalidPlan b1InvalidPlan b2InvalidPlan b3InvalidPlan b4InvalidPlan) PySem.EiX.iS .none kVInvalidPlan dcInvalidPlan pmInvalidPlan anInvalidPlan (.ref cdaInvalidPlan) ctInvalidPlan ccInvalidPlan), slInvalidPlan⟩)
    (cInvalidPlan : PySem.W.codeIn K (.ref cdaInvalidPlan) "InvalidPlan.__init__" = true)
    (lcInvalidPlan : K.lookup ccInvalidPlan = some ⟨clInvalidPlan, cldInvalidPlan, .cell (some (.ref EInvalidPlan)), cslInvalidPlan⟩)
    (ldInvalidPlan : K.lookup cdaInvalidPlan = some ⟨cclInvalidPlan, cddInvalidPlan, .fields vsInvalidPlan, ccsInvalidPlan⟩)
    (vfInvalidPlan : vsInvalidPlan[2]? = some (.str fileInvalidPlan tkInvalidPlan))
    (fiInvalidPlan : ((P.main.file : Str) == fileInvalidPlan) = true)
    (u1InvalidPlan : t1InvalidPlan.length ≤ 1000)
    (u2InvalidPlan : t2InvalidPlan.length ≤ 1000)
    (lnInvalidPlan : (a3InvalidPlan.endLine == a9InvalidPlan.line) = true)
    (aM : PySem.W.nsIn K mainGlobals "Moment" = some (some (.ref CM)))
    (pgM : PySem.W.plainGet K CM Str.empty = true)
    (hdM : PySem.W.hasDictIn K CM = true)
    (poM : PySem.W.plainOver K CM = true)
    (saM : PySem.W.findIn K (.ref CM) "__setattr__" = some (some (.builtin "object.__setattr__")))
    (mkM : PySem.W.makesIn K CM = true)
    (kcM : PySem.W.keepIn K (.ref CM) = true)
    (nM0 : PySem.W.findIn K (.ref CM) "operation" = some none)
    (nM1 : PySem.W.findIn K (.ref CM) "red_now" = some none)
    (nM2 : PySem.W.findIn K (.ref CM) "moved" = some none)
    (nM3 : PySem.W.findIn K (.ref CM) "turned" = some none)
    (nM4 : PySem.W.findIn K (.ref CM) "earlier" = some none)
    (aH : PySem.W.nsIn K mainGlobals "House" = some (some (.ref CH)))
    (pgH : PySem.W.plainGet K CH Str.empty = true)
    (hdH : PySem.W.hasDictIn K CH = true)
    (poH : PySem.W.plainOver K CH = true)
    (saH : PySem.W.findIn K (.ref CH) "__setattr__" = some (some (.builtin "object.__setattr__")))
    (mkH : PySem.W.makesIn K CH = true)
    (kcH : PySem.W.keepIn K (.ref CH) = true)
    (nH0 : PySem.W.findIn K (.ref CH) "all_chairs" = some none)
    (nH1 : PySem.W.findIn K (.ref CH) "present" = some none)
    (nH2 : PySem.W.findIn K (.ref CH) "reverted" = some none)
    (ami : PySem.W.findIn K (.ref CM) "__init__" = some (some (.ref fmi)))
    (imi : PySem.W.isFn K (.ref fmi) = true)
    (lmi : K.lookup fmi = some ⟨ocmi, odmi, .func (PySem.W.fnOf "__init__" "Moment.__init__" (defArgs s_Moment___init__) (defBody s_Moment___init__) (defScope s_Moment___init__) .none kVmi dcmi pmmi anmi cdmi ctmi), slmi⟩)
    (cmi : PySem.W.codeIn K cdmi "Moment.__init__" = true)
    (kmi : PySem.W.keepIn K (.ref fmi) = true)
    (ahi : PySem.W.findIn K (.ref CH) "__init__" = some (some (.ref fhi)))
    (ihi : PySem.W.isFn K (.ref fhi) = true)
    (lhi : K.lookup fhi = some ⟨ochi, odhi, .func (PySem.W.fnOf "__init__" "House.__init__" (defArgs s_House___init__) (defBody s_House___init__) (defScope s_House___init__) .none (.ref kDhi) dchi pmhi anhi cdhi cthi), slhi⟩)
    (chi : PySem.W.codeIn K cdhi "House.__init__" = true)
    (khi : PySem.W.keepIn K (.ref fhi) = true)
    (krD : PySem.W.nsIn K kDhi "red" = some (some (.int 0 tkr)))
    (aac : PySem.W.findIn K (.ref CH) "accept" = some (some (.ref fac)))
    (iac : PySem.W.isFn K (.ref fac) = true)
    (lac : K.lookup fac = some ⟨ocac, odac, .func (PySem.W.fnOf "accept" "House.accept" (defArgs s_House_accept) (defBody s_House_accept) (defScope s_House_accept) .none kVac dcac pmac anac cdac ctac), slac⟩)
    (cac : PySem.W.codeIn K cdac "House.accept" = true)
    (kac : PySem.W.keepIn K (.ref fac) = true)
    (amo : PySem.W.findIn K (.ref CH) "moments" = some (some (.ref fmo)))
    (imo : PySem.W.isFn K (.ref fmo) = true)
    (lmo : K.lookup fmo = some ⟨ocmo, odmo, .func (PySem.W.fnOf "moments" "House.moments" (defArgs s_House_moments) (defBody s_House_moments) (defScope s_House_moments) .none kVmo dcmo pmmo anmo cdmo ctmo), slmo⟩)
    (cmo : PySem.W.codeIn K cdmo "House.moments" = true)
    (kmo : PySem.W.keepIn K (.ref fmo) = true)
    (aru : PySem.W.findIn K (.ref CH) "run" = some (some (.ref fru)))
    (iru : PySem.W.isFn K (.ref fru) = true)
    (lru : K.lookup fru = some ⟨ocru, odru, .func (PySem.W.fnOf "run" "House.run" (defArgs s_House_run) (defBody s_House_run) (defScope s_House_run) .none kVru dcru pmru anru cdru ctru), slru⟩)
    (cru : PySem.W.codeIn K cdru "House.run" = true)
    (kru : PySem.W.keepIn K (.ref fru) = true)
    (ame : PySem.W.findIn K (.ref CH) "meet" = some (some (.ref fme)))
    (ime : PySem.W.isFn K (.ref fme) = true)
    (lme : K.lookup fme = some ⟨ocme, odme, .func (PySem.W.fnOf "meet" "House.meet" (defArgs s_House_meet) (defBody s_House_meet) (defScope s_House_meet) .none kVme dcme pmme anme cdme ctme), slme⟩)
    (cme : PySem.W.codeIn K cdme "House.meet" = true)
    (kme : PySem.W.keepIn K (.ref fme) = true)
    (atu : PySem.W.findIn K (.ref CH) "turn" = some (some (.ref ftu)))
    (itu : PySem.W.isFn K (.ref ftu) = true)
    (ltu : K.lookup ftu = some ⟨octu, odtu, .func (PySem.W.fnOf "turn" "House.turn" (defArgs s_House_turn) (defBody s_House_turn) (defScope s_House_turn) .none kVtu dctu pmtu antu cdtu cttu), sltu⟩)
    (ctu : PySem.W.codeIn K cdtu "House.turn" = true)
    (ktu : PySem.W.keepIn K (.ref ftu) = true)
    (arc : PySem.W.findIn K (.ref CH) "red_counts" = some (some (.ref frc)))
    (irc : PySem.W.isFn K (.ref frc) = true)
    (lrc : K.lookup frc = some ⟨ocrc, odrc, .func (PySem.W.fnOf "red_counts" "House.red_counts" (defArgs s_House_red_counts) (defBody s_House_red_counts) (defScope s_House_red_counts) .none kVrc dcrc pmrc anrc cdrc ctrc), slrc⟩)
    (crc : PySem.W.codeIn K cdrc "House.red_counts" = true)
    (krc : PySem.W.keepIn K (.ref frc) = true)
    (and : PySem.W.findIn K (.ref CH) "undo" = some (some (.ref fnd)))
    (ind : PySem.W.isFn K (.ref fnd) = true)
    (lnd : K.lookup fnd = some ⟨ocnd, odnd, .func (PySem.W.fnOf "undo" "House.undo" (defArgs s_House_undo) (defBody s_House_undo) (defScope s_House_undo) .none kVnd dcnd pmnd annd cdnd ctnd), slnd⟩)
    (cnd : PySem.W.codeIn K cdnd "House.undo" = true)
    (knd : PySem.W.keepIn K (.ref fnd) = true)
    (ard : PySem.W.findIn K (.ref CH) "redo" = some (some (.ref frd)))
    (ird : PySem.W.isFn K (.ref frd) = true)
    (lrd : K.lookup frd = some ⟨ocrd, odrd, .func (PySem.W.fnOf "redo" "House.redo" (defArgs s_House_redo) (defBody s_House_redo) (defScope s_House_redo) .none kVrd dcrd pmrd anrd cdrd ctrd), slrd⟩)
    (crd : PySem.W.codeIn K cdrd "House.redo" = true)
    (krd : PySem.W.keepIn K (.ref frd) = true)
    (aap : PySem.W.findIn K (.ref CH) "apply" = some (some (.ref fap)))
    (iap : PySem.W.isFn K (.ref fap) = true)
    (lap : K.lookup fap = some ⟨ocap, odap, .func (PySem.W.fnOf "apply" "House.apply" (defArgs s_House_apply) (defBody s_House_apply) (defScope s_House_apply) .none kVap dcap pmap anap cdap ctap), slap⟩)
    (cap : PySem.W.codeIn K cdap "House.apply" = true)
    (kap : PySem.W.keepIn K (.ref fap) = true)
    (apf : PySem.W.findIn K (.ref CH) "perform" = some (some (.ref fpf)))
    (ipf : PySem.W.isFn K (.ref fpf) = true)
    (lpf : K.lookup fpf = some ⟨ocpf, odpf, .func (PySem.W.fnOf "perform" "House.perform" (defArgs s_House_perform) (defBody s_House_perform) (defScope s_House_perform) .none kVpf dcpf pmpf anpf cdpf ctpf), slpf⟩)
    (cpf : PySem.W.codeIn K cdpf "House.perform" = true)
    (kpf : PySem.W.keepIn K (.ref fpf) = true)
    (pAre : PySem.W.findIn K (.ref CH) "red" = some (some (.ref Pre)))
    (pGre : PySem.W.specialIn K (.ref Pre) "__get__" = some (some (.builtin "property.__get__")))
    (pTre : PySem.W.takesIn K (.ref Pre) = some true)
    (pRre : PySem.W.recIn K Pre "property" = some (.ref fre :: rsre))
    (lre : K.lookup fre = some ⟨ocre, odre, .func (PySem.W.fnOf "red" "House.red" (defArgs s_House_red) (defBody s_House_red) (defScope s_House_red) .none kVre dcre pmre anre cdre ctre), slre⟩)
    (cre : PySem.W.codeIn K cdre "House.red" = true)
    (kre : PySem.W.keepIn K (.ref fre) = true)
    (pAbl : PySem.W.findIn K (.ref CH) "blue" = some (some (.ref Pbl)))
    (pGbl : PySem.W.specialIn K (.ref Pbl) "__get__" = some (some (.builtin "property.__get__")))
    (pTbl : PySem.W.takesIn K (.ref Pbl) = some true)
    (pRbl : PySem.W.recIn K Pbl "property" = some (.ref fbl :: rsbl))
    (lbl : K.lookup fbl = some ⟨ocbl, odbl, .func (PySem.W.fnOf "blue" "House.blue" (defArgs s_House_blue) (defBody s_House_blue) (defScope s_House_blue) .none kVbl dcbl pmbl anbl cdbl ctbl), slbl⟩)
    (cbl : PySem.W.codeIn K cdbl "House.blue" = true)
    (kbl : PySem.W.keepIn K (.ref fbl) = true)
    (pAtm : PySem.W.findIn K (.ref CH) "total_moved" = some (some (.ref Ptm)))
    (pGtm : PySem.W.specialIn K (.ref Ptm) "__get__" = some (some (.builtin "property.__get__")))
    (pTtm : PySem.W.takesIn K (.ref Ptm) = some true)
    (pRtm : PySem.W.recIn K Ptm "property" = some (.ref ftm :: rstm))
    (ltm : K.lookup ftm = some ⟨octm, odtm, .func (PySem.W.fnOf "total_moved" "House.total_moved" (defArgs s_House_total_moved) (defBody s_House_total_moved) (defScope s_House_total_moved) .none kVtm dctm pmtm antm cdtm cttm), sltm⟩)
    (ctm : PySem.W.codeIn K cdtm "House.total_moved" = true)
    (ktm : PySem.W.keepIn K (.ref ftm) = true)
    (pAiu : PySem.W.findIn K (.ref CH) "is_turned" = some (some (.ref Piu)))
    (pGiu : PySem.W.specialIn K (.ref Piu) "__get__" = some (some (.builtin "property.__get__")))
    (pTiu : PySem.W.takesIn K (.ref Piu) = some true)
    (pRiu : PySem.W.recIn K Piu "property" = some (.ref fiu :: rsiu))
    (liu : K.lookup fiu = some ⟨ociu, odiu, .func (PySem.W.fnOf "is_turned" "House.is_turned" (defArgs s_House_is_turned) (defBody s_House_is_turned) (defScope s_House_is_turned) .none kViu dciu pmiu aniu cdiu ctiu), sliu⟩)
    (ciu : PySem.W.codeIn K cdiu "House.is_turned" = true)
    (kiu : PySem.W.keepIn K (.ref fiu) = true)
    (pAhy : PySem.W.findIn K (.ref CH) "history" = some (some (.ref Phy)))
    (pGhy : PySem.W.specialIn K (.ref Phy) "__get__" = some (some (.builtin "property.__get__")))
    (pThy : PySem.W.takesIn K (.ref Phy) = some true)
    (pRhy : PySem.W.recIn K Phy "property" = some (.ref fhy :: rshy))
    (lhy : K.lookup fhy = some ⟨ochy, odhy, .func (PySem.W.fnOf "history" "House.history" (defArgs s_House_history) (defBody s_House_history) (defScope s_House_history) .none kVhy dchy pmhy anhy cdhy cthy), slhy⟩)
    (chy : PySem.W.codeIn K cdhy "House.history" = true)
    (khy : PySem.W.keepIn K (.ref fhy) = true)
    (pAit : PySem.W.findIn K (.ref C) "is_turning" = some (some (.ref Pit)))
    (pGit : PySem.W.specialIn K (.ref Pit) "__get__" = some (some (.builtin "property.__get__")))
    (pTit : PySem.W.takesIn K (.ref Pit) = some true)
    (pRit : PySem.W.recIn K Pit "property" = some (.ref fit :: rsit))
    (lit : K.lookup fit = some ⟨ocit, odit, .func (PySem.W.fnOf "is_turning" "Plan.is_turning" (defArgs s_Plan_is_turning) (defBody s_Plan_is_turning) (defScope s_Plan_is_turning) .none kVit dcit pmit anit cdit ctit), slit⟩)
    (cit : PySem.W.codeIn K cdit "Plan.is_turning" = true)
    (kit : PySem.W.keepIn K (.ref fit) = true)
    (bgme : PySem.W.specialIn K (.ref fme) "__get__" = some (some (.builtin "function.__get__")))
    (btme : PySem.W.takesIn K (.ref fme) = some false)
    (bfme : PySem.W.fnIn K fme = true)
    (bgap : PySem.W.specialIn K (.ref fap) "__get__" = some (some (.builtin "function.__get__")))
    (btap : PySem.W.takesIn K (.ref fap) = some false)
    (bfap : PySem.W.fnIn K fap = true)
    (cArp : PySem.W.findCls K (.ref CH) (.type "type") "replay" = some (.get (.builtin "classmethod.__get__") (.ref Prp) .none (.ref CH)))
    (cBrp : PySem.W.recIn K Prp "classmethod" = some (.ref frp :: rsrp))
    (cCrp : PySem.W.fnIn K frp = true)
    (lrp : K.lookup frp = some ⟨ocrp, odrp, .func (PySem.W.fnOf "replay" "House.replay" (defArgs s_House_replay) (defBody s_House_replay) (defScope s_House_replay) .none kVrp dcrp pmrp anrp cdrp ctrp), slrp⟩)
    (crp : PySem.W.codeIn K cdrp "House.replay" = true)
    (krp : PySem.W.keepIn K (.ref frp) = true)
    (rdH : PySem.W.readsIn K CH (.type "type") = true)
    (gaH : PySem.W.specialIn K (.ref CH) "__getattribute__" = some (some (.builtin "type.__getattribute__")))
    (egDa : PySem.W.nsIn K mainGlobals "DaybookError" = some (some (.ref eDa)))
    (eiDa : PySem.W.isClsIn K eDa = true)
    (etDa : PySem.W.typeIn K (.ref eDa) = some (.type "type"))
    (egDe : PySem.W.nsIn K mainGlobals "DecodeError" = some (some (.ref eDe)))
    (eiDe : PySem.W.isClsIn K eDe = true)
    (etDe : PySem.W.typeIn K (.ref eDe) = some (.type "type"))
    (egBo : PySem.W.nsIn K mainGlobals "InvalidBooking" = some (some (.ref eBo)))
    (eiBo : PySem.W.isClsIn K eBo = true)
    (etBo : PySem.W.typeIn K (.ref eBo) = some (.type "type"))
    (egNu : PySem.W.nsIn K mainGlobals "InvalidNumber" = some (some (.ref eNu)))
    (eiNu : PySem.W.isClsIn K eNu = true)
    (etNu : PySem.W.typeIn K (.ref eNu) = some (.type "type"))
    (egTe : PySem.W.nsIn K mainGlobals "InvalidText" = some (some (.ref eTe)))
    (eiTe : PySem.W.isClsIn K eTe = true)
    (etTe : PySem.W.typeIn K (.ref eTe) = some (.type "type"))
    (gCE : PySem.W.nsIn K mainGlobals "ChairError" = some (some (.ref CE)))
    (bCE : PySem.W.subIn K (.ref CE) (.type "BaseException") = some true)
    (dCE : PySem.W.hasDictIn K CE = true)
    (tCE : PySem.W.typeIn K (.ref CE) = some (.type "type"))
    (x5N : PySem.W.specialIn K (.builtin "object.__class__") "__get__" = some (some (.builtin "getset_descriptor.__get__")))
    (x6N : PySem.W.takesIn K (.builtin "object.__class__") = some true)
    (es_4_0 : PySem.W.subIn K (.ref EInvalidOperation) (.ref eDa) = some false)
    (es_4_1 : PySem.W.subIn K (.ref EInvalidOperation) (.ref eDe) = some false)
    (es_4_2 : PySem.W.subIn K (.ref EInvalidOperation) (.ref eBo) = some false)
    (es_4_3 : PySem.W.subIn K (.ref EInvalidOperation) (.ref eNu) = some false)
    (es_4_5 : PySem.W.subIn K (.ref EInvalidOperation) (.ref EInvalidPlan) = some false)
    (es_4_6 : PySem.W.subIn K (.ref EInvalidOperation) (.ref eTe) = some false)
    (es_4_7 : PySem.W.subIn K (.ref EInvalidOperation) (.ref ENotEnough) = some false)
    (es_4_8 : PySem.W.subIn K (.ref EInvalidOperation) (.ref ETooFewChairs) = some false)
    (sC_4 : PySem.W.subIn K (.ref EInvalidOperation) (.ref CE) = some true)
    (vE_4 : PySem.W.subIn K (.ref EInvalidOperation) (.type "ValueError") = some true)
    (x1_4 : PySem.W.findIn K (.ref EInvalidOperation) "__getattribute__" = some (some (.builtin "BaseException.__getattribute__")))
    (x2_4 : PySem.W.findIn K (.ref EInvalidOperation) "__getattr__" = some none)
    (x3_4 : PySem.W.hasDictIn K EInvalidOperation = true)
    (x4_4 : PySem.W.findIn K (.ref EInvalidOperation) "__class__" = some (some (.builtin "object.__class__")))
    (x7_4 : PySem.W.mroIn K EInvalidOperation (.type "object") = some true)
    (nI_4 : PySem.W.findIn K (.ref EInvalidOperation) "index" = some none)
    (nR_4 : PySem.W.findIn K (.ref EInvalidOperation) "row" = some none)
    (nO_4 : PySem.W.findIn K (.ref EInvalidOperation) "offset" = some none)
    (es_7_0 : PySem.W.subIn K (.ref ENotEnough) (.ref eDa) = some false)
    (es_7_1 : PySem.W.subIn K (.ref ENotEnough) (.ref eDe) = some false)
    (es_7_2 : PySem.W.subIn K (.ref ENotEnough) (.ref eBo) = some false)
    (es_7_3 : PySem.W.subIn K (.ref ENotEnough) (.ref eNu) = some false)
    (es_7_4 : PySem.W.subIn K (.ref ENotEnough) (.ref EInvalidOperation) = some false)
    (es_7_5 : PySem.W.subIn K (.ref ENotEnough) (.ref EInvalidPlan) = some false)
    (es_7_6 : PySem.W.subIn K (.ref ENotEnough) (.ref eTe) = some false)
    (es_7_8 : PySem.W.subIn K (.ref ENotEnough) (.ref ETooFewChairs) = some false)
    (sC_7 : PySem.W.subIn K (.ref ENotEnough) (.ref CE) = some true)
    (vE_7 : PySem.W.subIn K (.ref ENotEnough) (.type "ValueError") = some true)
    (x1_7 : PySem.W.findIn K (.ref ENotEnough) "__getattribute__" = some (some (.builtin "BaseException.__getattribute__")))
    (x2_7 : PySem.W.findIn K (.ref ENotEnough) "__getattr__" = some none)
    (x3_7 : PySem.W.hasDictIn K ENotEnough = true)
    (x4_7 : PySem.W.findIn K (.ref ENotEnough) "__class__" = some (some (.builtin "object.__class__")))
    (x7_7 : PySem.W.mroIn K ENotEnough (.type "object") = some true)
    (nI_7 : PySem.W.findIn K (.ref ENotEnough) "index" = some none)
    (nR_7 : PySem.W.findIn K (.ref ENotEnough) "row" = some none)
    (nO_7 : PySem.W.findIn K (.ref ENotEnough) "offset" = some none)
    (es_8_0 : PySem.W.subIn K (.ref ETooFewChairs) (.ref eDa) = some false)
    (es_8_1 : PySem.W.subIn K (.ref ETooFewChairs) (.ref eDe) = some false)
    (es_8_2 : PySem.W.subIn K (.ref ETooFewChairs) (.ref eBo) = some false)
    (es_8_3 : PySem.W.subIn K (.ref ETooFewChairs) (.ref eNu) = some false)
    (es_8_4 : PySem.W.subIn K (.ref ETooFewChairs) (.ref EInvalidOperation) = some false)
    (es_8_5 : PySem.W.subIn K (.ref ETooFewChairs) (.ref EInvalidPlan) = some false)
    (es_8_6 : PySem.W.subIn K (.ref ETooFewChairs) (.ref eTe) = some false)
    (es_8_7 : PySem.W.subIn K (.ref ETooFewChairs) (.ref ENotEnough) = some false)
    (sC_8 : PySem.W.subIn K (.ref ETooFewChairs) (.ref CE) = some true)
    (vE_8 : PySem.W.subIn K (.ref ETooFewChairs) (.type "ValueError") = some true)
    (x1_8 : PySem.W.findIn K (.ref ETooFewChairs) "__getattribute__" = some (some (.builtin "BaseException.__getattribute__")))
    (x2_8 : PySem.W.findIn K (.ref ETooFewChairs) "__getattr__" = some none)
    (x3_8 : PySem.W.hasDictIn K ETooFewChairs = true)
    (x4_8 : PySem.W.findIn K (.ref ETooFewChairs) "__class__" = some (some (.builtin "object.__class__")))
    (x7_8 : PySem.W.mroIn K ETooFewChairs (.type "object") = some true)
    (nI_8 : PySem.W.findIn K (.ref ETooFewChairs) "index" = some none)
    (nR_8 : PySem.W.findIn K (.ref ETooFewChairs) "row" = some none)
    (nO_8 : PySem.W.findIn K (.ref ETooFewChairs) "offset" = some none)
    (pA : PySem.W.findIn K (.ref C) "steps" = some (some (.ref pS)))
    (pG : PySem.W.specialIn K (.ref pS) "__get__" = some (some (.builtin "property.__get__")))
    (pT : PySem.W.takesIn K (.ref pS) = some true)
    (pR : PySem.W.recIn K pS "property" = some (.ref fmst :: rs))
    (lmst : K.lookup fmst = some ⟨ocmst, odmst, .func (PySem.W.fnOf "steps" "Plan.steps" (defArgs sSteps) (defBody sSteps) (defScope sSteps) .none kVmst dcmst pmmst anmst cdmst ctmst), slmst⟩)
    (cmst : PySem.W.codeIn K cdmst "Plan.steps" = true)
    (kmst : PySem.W.keepIn K (.ref fmst) = true)
    (pg : PySem.W.plainGet K C Str.empty = true)
    (hd : PySem.W.hasDictIn K C = true)
    (po : PySem.W.plainOver K C = true)
    (sa : PySem.W.findIn K (.ref C) "__setattr__" = some (some (.builtin "object.__setattr__")))
    (mk : PySem.W.makesIn K C = true)
    (kc : PySem.W.keepIn K (.ref C) = true)
    (nS : PySem.W.findIn K (.ref C) "step_tuple" = some none)
    (rd : PySem.W.readsIn K C (.type "type") = true)
    (ga : PySem.W.specialIn K (.ref C) "__getattribute__" = some (some (.builtin "type.__getattribute__")))
    (v1 : PySem.W.findCls K (.ref C) (.type "type") "MAX_STEPS" = some (.val (.int 60 t1)))
    (v2 : PySem.W.findCls K (.ref C) (.type "type") "MAX_CHAIRS" = some (.val (.int 1000000000000000000 t2)))
    (w2 : PySem.W.findIn K (.ref C) "MAX_CHAIRS" = some (some (.int 1000000000000000000 t3)))
    (w3 : PySem.W.specialIn K (.int 1000000000000000000 t3) "__get__" = some none)
    (aT : PySem.W.nsIn K mainGlobals "TURN" = some (some (.ref TU)))
    (lT : K.lookup TU = some ⟨.type "tuple", dT, .seq #[.str "turn" t4] nT, slT⟩)
    (q_MAX_ROUNDS : PySem.W.nsIn K mainGlobals "MAX_ROUNDS" = some (some (.int 1000000000000000000 t_MAX_ROUNDS)))
    (z0 : PySem.W.nsIn K mainGlobals "isinstance" = some none)
    (z1 : PySem.W.nsIn K mainGlobals "int" = some none)
    (z2 : PySem.W.nsIn K mainGlobals "bool" = some none)
    (z3 : PySem.W.nsIn K mainGlobals "tuple" = some none)
    (z4 : PySem.W.nsIn K mainGlobals "list" = some none)
    (z5 : PySem.W.nsIn K mainGlobals "len" = some none)
    (z6 : PySem.W.nsIn K mainGlobals "max" = some none)
    (z7 : PySem.W.nsIn K mainGlobals "min" = some none)
    (z8 : PySem.W.nsIn K mainGlobals "abs" = some none)
    (z9 : PySem.W.nsIn K mainGlobals "enumerate" = some none)
    (z10 : PySem.W.nsIn K mainGlobals "range" = some none)
    (z11 : PySem.W.nsIn K mainGlobals "sum" = some none)
    (z12 : PySem.W.nsIn K mainGlobals "sorted" = some none)
    (z13 : PySem.W.nsIn K mainGlobals "divmod" = some none)
    (z14 : PySem.W.nsIn K mainGlobals "zip" = some none)
    (z15 : PySem.W.nsIn K mainGlobals "str" = some none)
    (z16 : PySem.W.nsIn K mainGlobals "dict" = some none)
    (z17 : PySem.W.nsIn K mainGlobals "ValueError" = some none)
    (z18 : PySem.W.nsIn K mainGlobals "any" = some none)
    : ∃ (fd : FuncData) (cts : List (Addr × Addr)), (∀ u ∈ cts, ∃ y ∈ (["_law_group_right"] : List Str), PySem.W.tabIn K y = some u ∧ K.lookup u.2 = none) ∧ (∀ (s : Shared) (v : Value), BindsTo s fd ⟨[v], []⟩ [("_law_script", v)]) ∧ ∀ base : Heap, K.In base → base.Ns mainGlobals mg → (∀ u ∈ cts, TabB base mg u.1 u.2) → FnOk P w K mg base CX0 13 fa fd ["_law_script"] (spLawTs K (cts.map (·.2))) := by
  have e := hfa.symm.trans (PySem.W.mg_of X G a_law)
  cases e
  have Bb : Bt mg := ⟨PySem.W.mg_none_of X G z0, PySem.W.mg_none_of X G z1, PySem.W.mg_none_of X G z2, PySem.W.mg_none_of X G z3, PySem.W.mg_none_of X G z4, PySem.W.mg_none_of X G z5, PySem.W.mg_none_of X G z6, PySem.W.mg_none_of X G z7, PySem.W.mg_none_of X G z8, PySem.W.mg_none_of X G z9, PySem.W.mg_none_of X G z10, PySem.W.mg_none_of X G z11, PySem.W.mg_none_of X G z12, PySem.W.mg_none_of X G z13, PySem.W.mg_none_of X G z14, PySem.W.mg_none_of X G z15, PySem.W.mg_none_of X G z16, PySem.W.mg_none_of X G z17, PySem.W.mg_none_of X G z18⟩
  have F_is_whole := fun_mk (st := sIsWhole) l_is_whole c_is_whole k_is_whole
  have F_is_number := fun_mk (st := sIsNum) l_is_number c_is_number k_is_number
  have F_check_number := fun_mk (st := sChkNum) l_check_number c_check_number k_check_number
  have F_check_house := fun_mk (st := sChkHouse) l_check_house c_check_house k_check_house
  have F_is_step := fun_mk (st := sIsStep) l_is_step c_is_step k_is_step
  have F__law_mix := fun_mk (st := s__law_mix) l__law_mix c__law_mix k__law_mix
  have F__law_next := fun_mk (st := s__law_next) l__law_next c__law_next k__law_next
  have F__law_steps := fun_mk (st := s__law_steps) l__law_steps c__law_steps k__law_steps
  have F__law_alike := fun_mk (st := sAlike) l__law_alike c__law_alike k__law_alike
  have F_after_step := fun_mk (st := sAStep) l_after_step c_after_step k_after_step
  have F_after_steps := fun_mk (st := sASteps) l_after_steps c_after_steps k_after_steps
  have F_few_rounds := fun_mk (st := s_few_rounds) l_few_rounds c_few_rounds k_few_rounds
  have F_after_rounds := fun_mk (st := s_after_rounds) l_after_rounds c_after_rounds k_after_rounds
  have F_check_meeting := fun_mk (st := s_check_meeting) l_check_meeting c_check_meeting k_check_meeting
  have F_are_steps := fun_mk (st := s_are_steps) l_are_steps c_are_steps k_are_steps
  have F_is_operation := fun_mk (st := s_is_operation) l_is_operation c_is_operation k_is_operation
  have F_check_operations := fun_mk (st := s_check_operations) l_check_operations c_check_operations k_check_operations
  have F__law_told := fun_mk (st := s__law_told) l__law_told c__law_told k__law_told
  have F__law_deed := fun_mk (st := s__law_deed) l__law_deed c__law_deed k__law_deed
  have F__law_group_right := fun_mk (st := s__law_group_right) l__law_group_right c__law_group_right k__law_group_right
  have F_law := fun_mk (st := s_law) l_law c_law k_law
  have F__law_outcome := fun_mk (st := sOutcome) l__law_outcome c__law_outcome k__law_outcome
  have Fminit := fun_mk (st := sInit) lminit cminit kminit
  have Fmjoined := fun_mk (st := sJoined) lmjoined cmjoined kmjoined
  have Fmst := fun_mk (st := sSteps) lmst cmst kmst
  have b_is_whole := F_is_whole.binds (ps := ["value"]) fun _ _ _ _ _ _ us hl => match us, hl with | [_], _ => rfl
  have b_is_number := F_is_number.binds (ps := ["value", "least", "most"]) fun _ _ _ _ _ _ us hl => match us, hl with | [_, _, _], _ => rfl
  have b_check_number := F_check_number.binds (ps := ["value", "least", "most"]) fun _ _ _ _ _ _ us hl => match us, hl with | [_, _, _], _ => rfl
  have b_check_house := F_check_house.binds (ps := ["plan", "chairs"]) fun _ _ _ _ _ _ us hl => match us, hl with | [_, _], _ => rfl
  have b_is_step := F_is_step.binds (ps := ["step"]) fun _ _ _ _ _ _ us hl => match us, hl with | [_], _ => rfl
  have b__law_mix := F__law_mix.binds (ps := ["_law_script", "_law_seed"]) fun _ _ _ _ _ _ us hl => match us, hl with | [_, _], _ => rfl
  have b__law_next := F__law_next.binds (ps := ["_law_h", "_law_limit"]) fun _ _ _ _ _ _ us hl => match us, hl with | [_, _], _ => rfl
  have b__law_steps := F__law_steps.binds (ps := ["_law_h", "_law_chairs", "_law_most"]) fun _ _ _ _ _ _ us hl => match us, hl with | [_, _, _], _ => rfl
  have b__law_alike := F__law_alike.binds (ps := ["_law_found", "_law_due"]) fun _ _ _ _ _ _ us hl => match us, hl with | [_, _], _ => rfl
  have b_after_step := F_after_step.binds (ps := ["step", "chairs", "red"]) fun _ _ _ _ _ _ us hl => match us, hl with | [_, _, _], _ => rfl
  have b_after_steps := F_after_steps.binds (ps := ["steps", "chairs", "red"]) fun _ _ _ _ _ _ us hl => match us, hl with | [_, _, _], _ => rfl
  have b_few_rounds := F_few_rounds.binds (ps := ["rounds"]) fun _ _ _ _ _ _ us hl => match us, hl with | [_], _ => rfl
  have b_after_rounds := F_after_rounds.binds (ps := ["plan", "chairs", "red", "rounds"]) fun _ _ _ _ _ _ us hl => match us, hl with | [_, _, _, _], _ => rfl
  have b_check_meeting := F_check_meeting.binds (ps := ["room", "need"]) fun _ _ _ _ _ _ us hl => match us, hl with | [_, _], _ => rfl
  have b_are_steps := F_are_steps.binds (ps := ["steps"]) fun _ _ _ _ _ _ us hl => match us, hl with | [_], _ => rfl
  have b_is_operation := F_is_operation.binds (ps := ["operation"]) fun _ _ _ _ _ _ us hl => match us, hl with | [_], _ => rfl
  have b_check_operations := F_check_operations.binds (ps := ["operations"]) fun _ _ _ _ _ _ us hl => match us, hl with | [_], _ => rfl
  have b__law_told := F__law_told.binds (ps := ["_law_house"]) fun _ _ _ _ _ _ us hl => match us, hl with | [_], _ => rfl
  have b__law_deed := F__law_deed.binds (ps := ["_law_h", "_law_chairs"]) fun _ _ _ _ _ _ us hl => match us, hl with | [_, _], _ => rfl
  have b__law_group_right := F__law_group_right.binds (ps := ["_law_h", "_law_house", "_law_chairs"]) fun _ _ _ _ _ _ us hl => match us, hl with | [_, _, _], _ => rfl
  have b__law_outcome := F__law_outcome.binds (ps := ["_law_call"]) fun _ _ _ _ _ _ us hl => match us, hl with | [_], _ => rfl
  have bmst := Fmst.binds (ps := ["self"]) fun _ _ _ _ _ _ us hl => match us, hl with | [_], _ => rfl
  have Tt : Txt K mg C TU pS fmst (.type "type") := ⟨Bb, ⟨pg, hd, po, sa⟩, nS, PySem.W.mg_of X G aC, ⟨rd, ga⟩, ⟨_, v1, _, rfl⟩, ⟨_, v2, _, rfl⟩, ⟨_, w2, ⟨_, rfl⟩, w3, rfl⟩, PySem.W.mg_of X G aT,
    fun H => .inr ⟨_, _, _, lT, rfl, rfl, by show 1 ≤ sizeLine; decide, .cons ⟨_, rfl⟩ .nil⟩, ⟨pA, pG, pT, rs, pR⟩⟩
  refine ⟨PySem.W.fnOf "law" "law" (defArgs s_law) (defBody s_law) (defScope s_law) .none kV_law dc_law pm_law an_law cd_law ct_law, [(cL0, PT0)], fun u hu => ?_, fun s v => .of_eq rfl, fun base _ _ TB => ?_⟩
  · rw [List.mem_singleton.mp hu]
    exact ⟨"_law_group_right", List.mem_cons_self, tab_mk a__law_group_right l__law_group_right rfl lC0 v110, tN0⟩
  have TBD : TabB base mg cL0 PT0 := TB _ List.mem_cons_self
  have hmT : (PT0, q__law_group_right) ∈ [(PT0, q__law_group_right)] := List.mem_singleton.mpr rfl
  have huT : ∀ p ∈ [(PT0, q__law_group_right)], p.1 = PT0 → p.2 = q__law_group_right := fun p hp _ => by rw [List.mem_singleton.mp hp]
  have at_ := fun {x : Str} {f : Addr} (a : PySem.W.nsIn K mainGlobals x = some (some (.ref f))) => PySem.W.mg_of X G a
  have Gg : Gs P w K mg base C fmst _ := ⟨ok_steps Fmst Tt, bmst⟩
  have Mm : Mk K C fminit := ⟨mk, aminit, iminit, kc⟩
  have Mj : Meth K C "joined" fmjoined := ⟨amjoined, imjoined, kmjoined⟩
  have D_is_whole := dn_mk (P := P) (w := w) (base := base) (at_ a_is_whole) k_is_whole (ok_iswhole F_is_whole Bb) b_is_whole
  have D_is_number := dn_mk (P := P) (w := w) (base := base) (at_ a_is_number) k_is_number (ok_isnum F_is_number D_is_whole) b_is_number
  have D_check_number := dn_mk (P := P) (w := w) (base := base) (at_ a_check_number) k_check_number (ok_chknum F_check_number D_is_number) b_check_number
  have D_check_house := dn_mk (P := P) (w := w) (base := base) (at_ a_check_house) k_check_house (ok_chkhouse F_check_house Tt Gg D_check_number) b_check_house
  have D_is_step := dn_mk (P := P) (w := w) (base := base) (at_ a_is_step) k_is_step (ok_isstep F_is_step Tt D_is_number) b_is_step
  have GI := ok_init Fminit Tt D_is_step
  have GJ := ok_joined Fmjoined Tt Gg Mm GI
  have D__law_mix := dn_mk (P := P) (w := w) (base := base) (at_ a__law_mix) k__law_mix (ok__law_mix F__law_mix Bb) b__law_mix
  have D__law_next := dn_mk (P := P) (w := w) (base := base) (at_ a__law_next) k__law_next (ok__law_next F__law_next Bb) b__law_next
  have D__law_steps := dn_mk (P := P) (w := w) (base := base) (at_ a__law_steps) k__law_steps (ok__law_steps F__law_steps Bb D__law_next) b__law_steps
  have D__law_alike := dn_mk (P := P) (w := w) (base := base) (at_ a__law_alike) k__law_alike (ok_alikeD F__law_alike Bb (at_ a__law_alike) k__law_alike b__law_alike 5) b__law_alike
  have D_after_step := dn_mk (P := P) (w := w) (base := base) (at_ a_after_step) k_after_step (ok_astep F_after_step Tt) b_after_step
  have D_after_steps := dn_mk (P := P) (w := w) (base := base) (at_ a_after_steps) k_after_steps (ok_asteps F_after_steps D_after_step) b_after_steps
  have D_few_rounds := dn_mk (P := P) (w := w) (base := base) (at_ a_few_rounds) k_few_rounds (ok_few_rounds F_few_rounds ) b_few_rounds
  have D_after_rounds := dn_mk (P := P) (w := w) (base := base) (at_ a_after_rounds) k_after_rounds (ok_after_rounds F_after_rounds Tt Gg D_few_rounds D_after_steps) b_after_rounds
  have D_check_meeting := dn_mk (P := P) (w := w) (base := base) (at_ a_check_meeting) k_check_meeting (ok_check_meeting F_check_meeting Tt D_is_number) b_check_meeting
  have D__law_deed := dn_mk (P := P) (w := w) (base := base) (at_ a__law_deed) k__law_deed (ok__law_deed F__law_deed Tt D__law_next D__law_steps) b__law_deed
  have ERNotEnough : Err K mg "NotEnough" ENotEnough := ⟨PySem.W.mg_of X G gNotEnough, kNotEnough, ⟨_, _, _, _, PySem.F.excBase_ValueError, xNotEnough⟩, bNotEnough, tNotEnough⟩
  have EXNotEnough : PySem.W.exmOne K (.ref ENotEnough) (.ref ENotEnough) = some true := exm_own bNotEnough iNotEnough tNotEnough sNotEnough
  have XTTooFewChairs : PySem.EiX.EiTxt P K mg "TooFewChairs" ETooFewChairs fITooFewChairs := ⟨PySem.W.mg_of X G gTooFewChairs, kTooFewChairs, ⟨_, _, _, _, _, _, _, _, _, _, _, _, _, _, _, xTooFewChairs, by show PySem.HandSPX.refsVE PySem.HandSPX.veTail = true; decide +kernel⟩, saTooFewChairs, nbTooFewChairs, iTooFewChairs, tfTooFewChairs, bTooFewChairs, tTooFewChairs, svTooFewChairs, suTooFewChairs, opTooFewChairs, PySem.W.mg_none_of X G zsTooFewChairs, htTooFewChairs,
    ⟨ccTooFewChairs, cdaTooFewChairs, _, _, _, _, _, _, _, _, _, _, _, _, _, _, _, _, _, _, _, _, _, _, _, _, _, _, _, _, _, _, _, _, _, _, _, _, lTooFewChairs, cTooFewChairs, lcTooFewChairs, ldTooFewChairs, vfTooFewChairs, fiTooFewChairs, u1TooFewChairs, u2TooFewChairs, lnTooFewChairs⟩⟩
  have XFTooFewChairs : XfC K ETooFewChairs := ⟨gaTooFewChairs, ggTooFewChairs, bTooFewChairs, hdTooFewChairs⟩
  have EXTooFewChairs : PySem.W.exmOne K (.ref ETooFewChairs) (.ref ETooFewChairs) = some true := exm_own bTooFewChairs icTooFewChairs tTooFewChairs sTooFewChairs
  have XTInvalidOperation : PySem.EiX.EiTxt P K mg "InvalidOperation" EInvalidOperation fIInvalidOperation := ⟨PySem.W.mg_of X G gInvalidOperation, kInvalidOperation, ⟨_, _, _, _, _, _, _, _, _, _, _, _, _, _, _, xInvalidOperation, by show PySem.HandSPX.refsVE PySem.HandSPX.veTail = true; decide +kernel⟩, saInvalidOperation, nbInvalidOperation, iInvalidOperation, tfInvalidOperation, bInvalidOperation, tInvalidOperation, svInvalidOperation, suInvalidOperation, opInvalidOperation, PySem.W.mg_none_of X G zsInvalidOperation, htInvalidOperation,
    ⟨ccInvalidOperation, cdaInvalidOperation, _, _, _, _, _, _, _, _, _, _, _, _, _, _, _, _, _, _, _, _, _, _, _, _, _, _, _, _, _, _, _, _, _, _, _, _, lInvalidOperation, cInvalidOperation, lcInvalidOperation, ldInvalidOperation, vfInvalidOperation, fiInvalidOperation, u1InvalidOperation, u2InvalidOperation, lnInvalidOperation⟩⟩
  have XFInvalidOperation : XfC K EInvalidOperation := ⟨gaInvalidOperation, ggInvalidOperation, bInvalidOperation, hdInvalidOperation⟩
  have EXInvalidOperation : PySem.W.exmOne K (.ref EInvalidOperation) (.ref EInvalidOperation) = some true := exm_own bInvalidOperation icInvalidOperation tInvalidOperation sInvalidOperation
  have XTInvalidPlan : PySem.EiX.EiTxt P K mg "InvalidPlan" EInvalidPlan fIInvalidPlan := ⟨PySem.W.mg_of X G gInvalidPlan, kInvalidPlan, ⟨_, _, _, _, _, _, _, _, _, _, _, _, _, _, _, xInvalidPlan, by show PySem.HandSPX.refsVE PySem.HandSPX.veTail = true; decide +kernel⟩, saInvalidPlan, nbInvalidPlan, iInvalidPlan, tfInvalidPlan, bInvalidPlan, tInvalidPlan, svInvalidPlan, suInvalidPlan, opInvalidPlan, PySem.W.mg_none_of X G zsInvalidPlan, htInvalidPlan,
    ⟨ccInvalidPlan, cdaInvalidPlan, _, _, _, _, _, _, _, _, _, _, _, _, _, _, _, _, _, _, _, _, _, _, _, _, _, _, _, _, _, _, _, _, _, _, _, _, lInvalidPlan, cInvalidPlan, lcInvalidPlan, ldInvalidPlan, vfInvalidPlan, fiInvalidPlan, u1InvalidPlan, u2InvalidPlan, lnInvalidPlan⟩⟩
  have XFInvalidPlan : XfC K EInvalidPlan := ⟨gaInvalidPlan, ggInvalidPlan, bInvalidPlan, hdInvalidPlan⟩
  have EXInvalidPlan : PySem.W.exmOne K (.ref EInvalidPlan) (.ref EInvalidPlan) = some true := exm_own bInvalidPlan icInvalidPlan tInvalidPlan sInvalidPlan
  have Fmi := fun_mk (st := s_Moment___init__) lmi cmi kmi
  have Fhi := fun_mk (st := s_House___init__) lhi chi khi
  have Fac := fun_mk (st := s_House_accept) lac cac kac
  have Fmo := fun_mk (st := s_House_moments) lmo cmo kmo
  have Fru := fun_mk (st := s_House_run) lru cru kru
  have Fme := fun_mk (st := s_House_meet) lme cme kme
  have Ftu := fun_mk (st := s_House_turn) ltu ctu ktu
  have Frc := fun_mk (st := s_House_red_counts) lrc crc krc
  have Fnd := fun_mk (st := s_House_undo) lnd cnd knd
  have Frd := fun_mk (st := s_House_redo) lrd crd krd
  have Fap := fun_mk (st := s_House_apply) lap cap kap
  have Fpf := fun_mk (st := s_House_perform) lpf cpf kpf
  have Fre := fun_mk (st := s_House_red) lre cre kre
  have bre := Fre.binds (ps := ["self"]) fun _ _ _ _ _ _ us hl => match us, hl with | [_], _ => rfl
  have Qre : PropOf K CH "red" Pre fre := ⟨pAre, pGre, pTre, rsre, pRre⟩
  have Fbl := fun_mk (st := s_House_blue) lbl cbl kbl
  have bbl := Fbl.binds (ps := ["self"]) fun _ _ _ _ _ _ us hl => match us, hl with | [_], _ => rfl
  have Qbl : PropOf K CH "blue" Pbl fbl := ⟨pAbl, pGbl, pTbl, rsbl, pRbl⟩
  have Ftm := fun_mk (st := s_House_total_moved) ltm ctm ktm
  have btm := Ftm.binds (ps := ["self"]) fun _ _ _ _ _ _ us hl => match us, hl with | [_], _ => rfl
  have Qtm : PropOf K CH "total_moved" Ptm ftm := ⟨pAtm, pGtm, pTtm, rstm, pRtm⟩
  have Fiu := fun_mk (st := s_House_is_turned) liu ciu kiu
  have biu := Fiu.binds (ps := ["self"]) fun _ _ _ _ _ _ us hl => match us, hl with | [_], _ => rfl
  have Qiu : PropOf K CH "is_turned" Piu fiu := ⟨pAiu, pGiu, pTiu, rsiu, pRiu⟩
  have Fhy := fun_mk (st := s_House_history) lhy chy khy
  have bhy := Fhy.binds (ps := ["self"]) fun _ _ _ _ _ _ us hl => match us, hl with | [_], _ => rfl
  have Qhy : PropOf K CH "history" Phy fhy := ⟨pAhy, pGhy, pThy, rshy, pRhy⟩
  have Fit := fun_mk (st := s_Plan_is_turning) lit cit kit
  have bit := Fit.binds (ps := ["self"]) fun _ _ _ _ _ _ us hl => match us, hl with | [_], _ => rfl
  have Qit : PropOf K C "is_turning" Pit fit := ⟨pAit, pGit, pTit, rsit, pRit⟩
  have Frp := fun_mk (st := s_House_replay) lrp crp krp
  have bmi := Fmi.binds (ps := ["self", "operation", "red_now", "moved", "turned", "earlier"]) fun _ _ _ _ _ _ us hl => match us, hl with | [_, _, _, _, _, _], _ => rfl
  have bac := Fac.binds (ps := ["self", "operation", "red", "carried", "turns"]) fun _ _ _ _ _ _ us hl => match us, hl with | [_, _, _, _, _], _ => rfl
  have bmo := Fmo.binds (ps := ["self"]) fun _ _ _ _ _ _ us hl => match us, hl with | [_], _ => rfl
  have bru := Fru.binds (ps := ["self", "plan", "rounds"]) fun _ _ _ _ _ _ us hl => match us, hl with | [_, _, _], _ => rfl
  have bme := Fme.binds (ps := ["self", "room", "need"]) fun _ _ _ _ _ _ us hl => match us, hl with | [_, _, _], _ => rfl
  have btu := Ftu.binds (ps := ["self"]) fun _ _ _ _ _ _ us hl => match us, hl with | [_], _ => rfl
  have brc := Frc.binds (ps := ["self"]) fun _ _ _ _ _ _ us hl => match us, hl with | [_], _ => rfl
  have bnd := Fnd.binds (ps := ["self"]) fun _ _ _ _ _ _ us hl => match us, hl with | [_], _ => rfl
  have brd := Frd.binds (ps := ["self"]) fun _ _ _ _ _ _ us hl => match us, hl with | [_], _ => rfl
  have bpf := Fpf.binds (ps := ["self", "operation"]) fun _ _ _ _ _ _ us hl => match us, hl with | [_, _], _ => rfl
  have OM : MTxt K CM := ⟨⟨pgM, hdM, poM, saM⟩, nM0, nM1, nM2, nM3, nM4⟩
  have OH : HTxt K CH := ⟨⟨pgH, hdH, poH, saH⟩, nH0, nH1, nH2⟩
  have MM : Mk K CM fmi := ⟨mkM, ami, imi, kcM⟩
  have MH : Mk K CH fhi := ⟨mkH, ahi, ihi, kcH⟩
  have GMI : FnR P w K mg base CX0 1 fmi (spMomInit CM) := ((ok_Moment___init__ (P := P) (w := w) (base := base) (mg := mg) Fmi OM).raw bmi .nil).imp fun vs H Q E h => by rw [List.append_nil]; exact h
  have GHI := ok_House___init__ (P := P) (w := w) (base := base) (mg := mg) Fhi Tt D_check_number OH MM GMI (at_ aM)
  have hbH := kbn_red (K := K) (x := "__init__") (qual := "House.__init__") (params := defArgs s_House___init__) (body := defBody s_House___init__) (scope := defScope s_House___init__) (kV := .ref kDhi) (doc := dchi) (pm := pmhi) (cdv := cdhi) (ct := cthi) (an := anhi) fun s a b z => .of_eq rfl
  have ORd := ok_House_red (P := P) (w := w) (base := base) (mg := mg) Fre OH OM
  have OBl := ok_House_blue (P := P) (w := w) (base := base) (mg := mg) Fbl OH OM
  have OMv := ok_House_total_moved (P := P) (w := w) (base := base) (mg := mg) Ftm OH OM
  have OTd := ok_House_is_turned (P := P) (w := w) (base := base) (mg := mg) Fiu OH OM
  have OTu := ok_Plan_is_turning (P := P) (w := w) (base := base) (mg := mg) Fit Tt
  have MMo : Meth K CH "moments" fmo := ⟨amo, imo, kmo⟩
  have GMo : FnR P w K mg base CX0 1 fmo (spMoments CH CM) := ((ok_House_moments (P := P) (w := w) (base := base) (mg := mg) Fmo OH OM).raw bmo .nil).imp fun vs H Q E h => by rw [List.append_nil]; exact h
  have OHi := Tell.ok_House_history (P := P) (w := w) (base := base) (mg := mg) Fhy OH OM MMo GMo
  have MRC : Meth K CH "red_counts" frc := ⟨arc, irc, krc⟩
  have GRC := ok_House_red_counts (P := P) (w := w) (base := base) (mg := mg) Frc OH OM MMo GMo
  have MAc : Meth K CH "accept" fac := ⟨aac, iac, kac⟩
  have GAc : FnR P w K mg base CX0 3 fac (spAccept CH CM) := ((ok_House_accept (P := P) (w := w) (base := base) (mg := mg) Fac OH OM MM GMI (at_ aM)).raw bac .nil).imp fun vs H Q E h => by rw [List.append_nil]; exact h
  have MRu : Meth K CH "run" fru := ⟨aru, iru, kru⟩
  have GRu : FnR P w K mg base CX0 4 fru (spRun C CH CM) := ((ok_House_run (P := P) (w := w) (base := base) (mg := mg) Fru Tt Gg ⟨_, PySem.W.mg_of X G q_MAX_ROUNDS, ⟨_, rfl⟩⟩ D_check_house D_check_number D_after_rounds OH MAc GAc Qre ORd bre Qit OTu bit).raw bru .nil).imp fun vs H Q E h => by rw [List.append_nil]; exact h
  have DHX : DnN P w K mg base 3 "check_house" f_check_house (spHouseX C ETooFewChairs) := ⟨((Bare.ok_housen F_check_house Tt Gg D_check_number XTTooFewChairs).raw b_check_house .nil).imp fun vs H Q E h => by rw [List.append_nil]; exact h, at_ a_check_house, k_check_house⟩
  have GRF : FnR P w K mg base (L2N.CX P w) 4 fru (spRunF C CH CM ETooFewChairs) := ((Bare.okn_House_run (P := P) (w := w) (base := base) (mg := mg) Fru Tt Gg ⟨_, PySem.W.mg_of X G q_MAX_ROUNDS, ⟨_, rfl⟩⟩ D_check_number D_after_rounds DHX OH MAc GAc Qre ORd bre Qit OTu bit).raw bru .nil).imp fun vs H Q E h => by rw [List.append_nil]; exact h
  have MTu : Meth K CH "turn" ftu := ⟨atu, itu, ktu⟩
  have GTu : FnR P w K mg base CX0 4 ftu (spTurn CH CM TU) := ((ok_House_turn (P := P) (w := w) (base := base) (mg := mg) Ftu Tt OH MAc GAc Qbl OBl bbl).raw btu .nil).imp fun vs H Q E h => by rw [List.append_nil]; exact h
  have MMe : Meth K CH "meet" fme := ⟨ame, ime, kme⟩
  have BMe : BMeth K CH "meet" fme := ⟨MMe, bgme, btme, by decide +kernel, bfme⟩
  have GMe : FnR P w K mg base CX0 4 fme (spMeet CH CM) := ((ok_House_meet (P := P) (w := w) (base := base) (mg := mg) Fme D_check_meeting D_after_step OH MAc GAc Qre ORd bre).raw bme .nil).imp fun vs H Q E h => by rw [List.append_nil]; exact h
  have GMeN : FnR P w K mg base (L2N.CX P w) 4 fme (spMeetE CH CM ENotEnough) := ((Bare.okn_House_meet (P := P) (w := w) (base := base) (mg := mg) Fme D_check_meeting D_after_step ERNotEnough OH MAc GAc Qre ORd bre).raw bme .nil).imp fun vs H Q E h => by rw [List.append_nil]; exact h
  have MUn : Meth K CH "undo" fnd := ⟨and, ind, knd⟩
  have GUn : FnR P w K mg base CX0 1 fnd (spUndo CH CM) := ((ok_House_undo (P := P) (w := w) (base := base) (mg := mg) Fnd OH OM).raw bnd .nil).imp fun vs H Q E h => by rw [List.append_nil]; exact h
  have MRd : Meth K CH "redo" frd := ⟨ard, ird, krd⟩
  have GRd : FnR P w K mg base CX0 1 frd (spRedo CH CM) := ((ok_House_redo (P := P) (w := w) (base := base) (mg := mg) Frd OH OM).raw brd .nil).imp fun vs H Q E h => by rw [List.append_nil]; exact h
  have MPf : Meth K CH "perform" fpf := ⟨apf, ipf, kpf⟩
  have GPf : FnR P w K mg base CX0 5 fpf (spPerform K CH CM) := ((ok_House_perform (P := P) (w := w) (base := base) (mg := mg) Fpf Tt Mm GI OH BMe GMe MRu GRu MTu GTu).raw bpf .nil).imp fun vs H Q E h => by rw [List.append_nil]; exact h
  have GPfX : FnR P w K mg base (L2N.CX P w) 5 fpf (spPerformX K CH CM ENotEnough ETooFewChairs) := ((okn_House_perform (P := P) (w := w) (base := base) (mg := mg) Fpf Tt Mm GI OH BMe GMeN MRu GRF MTu GTu).raw bpf .nil).imp fun vs H Q E h => by rw [List.append_nil]; exact h
  have GPfA : FnR P w K mg base (L2N.CX P w) 5 fpf (spPerfA K CH CM ENotEnough ETooFewChairs) := fnr_andN GPf GPfX
  have D_isX := dn_mk (P := P) (w := w) (base := base) (at_ a_is_step) k_is_step (ok_isstepX F_is_step Tt D_is_number) b_is_step
  have D_isA : Dn P w K mg base 2 "is_step" f_is_step spIsStepA := ⟨D_is_step.at_, D_is_step.kp, fnr_two D_is_step.ok D_isX.ok⟩
  have GIA : FnR P w K mg base (L2.CX P w) 3 fminit (spInitA C EInvalidPlan) := fnr_and GI (ok_initX Fminit Tt D_isA XTInvalidPlan)
  have D_are_steps := dn_mk (P := P) (w := w) (base := base) (at_ a_are_steps) k_are_steps (ok_are_steps F_are_steps Tt Mm GIA (at_ gInvalidPlan) EXInvalidPlan) b_are_steps
  have D_is_operation := dn_mk (P := P) (w := w) (base := base) (at_ a_is_operation) k_is_operation (ok_is_operation F_is_operation Tt D_are_steps) b_is_operation
  have D_check_operations := dn_mk (P := P) (w := w) (base := base) (at_ a_check_operations) k_check_operations (ok_check_operations F_check_operations Tt D_is_operation) b_check_operations
  have DXO := dnx_mk (P := P) (w := w) (base := base) (at_ a_check_operations) k_check_operations (okx_check_operations F_check_operations Tt D_is_operation XTInvalidOperation) b_check_operations
  have DOA : DnX P w K mg base 7 "check_operations" f_check_operations (spChkOpsA K EInvalidOperation) := ⟨at_ a_check_operations, k_check_operations, fnr_and D_check_operations.ok DXO.ok⟩
  have D__law_told := dn_mk (P := P) (w := w) (base := base) (at_ a__law_told) k__law_told (ok__law_told F__law_told Bb OH Qre ORd bre Qbl OBl bbl Qtm OMv btm Qiu OTd biu Qhy OHi bhy MRC GRC brc) b__law_told
  have Koperation : IsKind K CE eDa eDe eBo eNu EInvalidOperation EInvalidPlan eTe ENotEnough ETooFewChairs EInvalidOperation "operation" := ⟨PySem.W.exm_ref bCE dCE tCE sC_4, _, _, _, _, _, _, _, _, _, 4, ⟨⟨x1_4, x2_4, bInvalidOperation, x3_4, x4_4, x5N, x6N, x7_4⟩, ⟨x1_4, x2_4, bInvalidOperation, x3_4⟩, tInvalidOperation, sInvalidOperation, nI_4, nR_4, nO_4, kit_noB sInvalidOperation eiDa etDa es_4_0, kit_noB sInvalidOperation eiDe etDe es_4_1, kit_noB sInvalidOperation eiBo etBo es_4_2, kit_noB sInvalidOperation eiNu etNu es_4_3, kit_ref icInvalidOperation tInvalidOperation sInvalidOperation (fun z => nomatch z), kit_noB sInvalidOperation icInvalidPlan tInvalidPlan es_4_5, kit_noB sInvalidOperation eiTe etTe es_4_6, kit_noB sInvalidOperation iNotEnough tNotEnough es_4_7, kit_noB sInvalidOperation icTooFewChairs tTooFewChairs es_4_8, kit_ve vE_4⟩, flags_operation⟩
  have Kenough : IsKind K CE eDa eDe eBo eNu EInvalidOperation EInvalidPlan eTe ENotEnough ETooFewChairs ENotEnough "enough" := ⟨PySem.W.exm_ref bCE dCE tCE sC_7, _, _, _, _, _, _, _, _, _, 7, ⟨⟨x1_7, x2_7, bNotEnough, x3_7, x4_7, x5N, x6N, x7_7⟩, ⟨x1_7, x2_7, bNotEnough, x3_7⟩, tNotEnough, sNotEnough, nI_7, nR_7, nO_7, kit_noB sNotEnough eiDa etDa es_7_0, kit_noB sNotEnough eiDe etDe es_7_1, kit_noB sNotEnough eiBo etBo es_7_2, kit_noB sNotEnough eiNu etNu es_7_3, kit_noB sNotEnough icInvalidOperation tInvalidOperation es_7_4, kit_noB sNotEnough icInvalidPlan tInvalidPlan es_7_5, kit_noB sNotEnough eiTe etTe es_7_6, kit_ref iNotEnough tNotEnough sNotEnough (fun z => nomatch z), kit_noB sNotEnough icTooFewChairs tTooFewChairs es_7_8, kit_ve vE_7⟩, flags_enough⟩
  have Kfew : IsKind K CE eDa eDe eBo eNu EInvalidOperation EInvalidPlan eTe ENotEnough ETooFewChairs ETooFewChairs "few" := ⟨PySem.W.exm_ref bCE dCE tCE sC_8, _, _, _, _, _, _, _, _, _, 8, ⟨⟨x1_8, x2_8, bTooFewChairs, x3_8, x4_8, x5N, x6N, x7_8⟩, ⟨x1_8, x2_8, bTooFewChairs, x3_8⟩, tTooFewChairs, sTooFewChairs, nI_8, nR_8, nO_8, kit_noB sTooFewChairs eiDa etDa es_8_0, kit_noB sTooFewChairs eiDe etDe es_8_1, kit_noB sTooFewChairs eiBo etBo es_8_2, kit_noB sTooFewChairs eiNu etNu es_8_3, kit_noB sTooFewChairs icInvalidOperation tInvalidOperation es_8_4, kit_noB sTooFewChairs icInvalidPlan tInvalidPlan es_8_5, kit_noB sTooFewChairs eiTe etTe es_8_6, kit_noB sTooFewChairs iNotEnough tNotEnough es_8_7, kit_ref icTooFewChairs tTooFewChairs sTooFewChairs (fun z => nomatch z), kit_ve vE_8⟩, flags_few⟩
  have NG : Nine mg eDa eDe eBo eNu EInvalidOperation EInvalidPlan eTe ENotEnough ETooFewChairs := ⟨at_ egDa, at_ egDe, at_ egBo, at_ egNu, at_ gInvalidOperation, at_ gInvalidPlan, at_ egTe, at_ gNotEnough, at_ gTooFewChairs⟩
  have MAp : Meth K CH "apply" fap := ⟨aap, iap, kap⟩
  have BAp : BMeth K CH "apply" fap := ⟨MAp, bgap, btap, by decide +kernel, bfap⟩
  have GAp : FnR P w K mg base (L2.CX P w) 9 fap (spApply K CH CM ENotEnough ETooFewChairs EInvalidOperation) := ok_applyT (P := P) (w := w) (base := base) (mg := mg) Fap DOA OH OM MPf GPfA (at_ gCE) Kenough.1 Kfew.1
  have GRp : FnR P w K mg base CX0 11 frp (spReplay K CH CM) := ok_replayT (P := P) (w := w) (base := base) (mg := mg) Frp OH MH GHI hbH BAp GAp
  have RpH : ClX.CRead K CH (.type "type") := ⟨rdH, gaH⟩
  have RpC : ClX.CMet K CH (.type "type") "replay" Prp frp := ⟨cArp, ⟨rsrp, cBrp⟩, cCrp⟩
  have D__law_group_right := dn_mk (P := P) (w := w) (base := base) (at_ a__law_group_right) k__law_group_right (ok__law_group_right l__law_group_right c__law_group_right TBD hmT huT Tt D__law_deed D__law_told D__law_next F__law_outcome (at_ a__law_outcome) k__law_outcome b__law_outcome (at_ gCE) Koperation Kenough Kfew NG OH MAp GAp) b__law_group_right
  exact (ok_law F_law Tt D__law_mix D__law_next D__law_told D__law_alike D__law_group_right D__law_deed OH MH GHI (at_ aH) hbH Qhy OHi bhy MUn GUn MRd GRd MTu GTu MAp GAp RpH RpC GRp).imp fun vs H Q E ⟨a, ns, e1, e2, e3, e4, e5⟩ => ⟨a, ns, e1, e2, e3, (fun p hp => by rw [List.mem_singleton.mp hp]; exact TabS.nil (e4 _ List.mem_cons_self)), e5⟩
end Cc

open PySem PySem.W PyProof.Rows
set_option maxRecDepth 100000 in
set_option maxHeartbeats 0 in
theorem PySem.Challenge.cw_chaircarry_k44_whole_operations_reverted_holds : PySem.Challenge.rw_chaircarry_k44_whole_operations_reverted.Holds := by
  w_on; o_law; k_head; (case hw => w_witness2)
  k_fill
  refine Cc.walk_tabs (l := PySem.Challenge.rw_chaircarry_k44_whole_operations_reverted) (n := 63) (k := 13) (x := "_law_script") (sp := fun w Ts => Cc.spLawTs _ Ts) ["_law_group_right"] rfl (by decide) rfl ⟨rfl, by decide, by decide⟩ (fun w h Y => PySem.W.km_in_of Y) rfl ?F fun _ Ts H a ns hl hT hF => ⟨a, ns, rfl, hF, hl, hT, fun _ => rfl⟩
  case F =>
    intro w mg fa h KX G hmg
    refine' Cc.all_mk KX G hmg ?a_is_whole ?l_is_whole ?c_is_whole ?k_is_whole ?a_is_number ?l_is_number ?c_is_number ?k_is_number ?a_check_number ?l_check_number ?c_check_number ?k_check_number ?a_check_house ?l_check_house ?c_check_house ?k_check_house ?a_is_step ?l_is_step ?c_is_step ?k_is_step ?a__law_mix ?l__law_mix ?c__law_mix ?k__law_mix ?a__law_next ?l__law_next ?c__law_next ?k__law_next ?a__law_steps ?l__law_steps ?c__law_steps ?k__law_steps ?a__law_alike ?l__law_alike ?c__law_alike ?k__law_alike ?a_after_step ?l_after_step ?c_after_step ?k_after_step ?a_after_steps ?l_after_steps ?c_after_steps ?k_after_steps ?a_few_rounds ?l_few_rounds ?c_few_rounds ?k_few_rounds ?a_after_rounds ?l_after_rounds ?c_after_rounds ?k_after_rounds ?a_check_meeting ?l_check_meeting ?c_check_meeting ?k_check_meeting ?a_are_steps ?l_are_steps ?c_are_steps ?k_are_steps ?a_is_operation ?l_is_operation ?c_is_operation ?k_is_operation ?a_check_operations ?l_check_operations ?c_check_operations ?k_check_operations ?a__law_told ?l__law_told ?c__law_told ?k__law_told ?a__law_deed ?l__law_deed ?c__law_deed ?k__law_deed ?a__law_group_right ?l__law_group_right ?c__law_group_right ?lC0 ?v110 ?tN0 ?k__law_group_right ?a_law ?l_law ?c_law ?k_law ?a__law_outcome ?l__law_outcome ?c__law_outcome ?k__law_outcome ?aC ?aminit ?iminit ?lminit ?cminit ?kminit ?amjoined ?imjoined ?lmjoined ?cmjoined ?kmjoined ?gNotEnough ?xNotEnough ?kNotEnough ?bNotEnough ?tNotEnough ?iNotEnough ?sNotEnough ?nNotEnough ?gTooFewChairs ?xTooFewChairs ?kTooFewChairs ?saTooFewChairs ?gaTooFewChairs ?ggTooFewChairs ?nbTooFewChairs ?iTooFewChairs ?tfTooFewChairs ?bTooFewChairs ?tTooFewChairs ?hdTooFewChairs ?icTooFewChairs ?sTooFewChairs ?svTooFewChairs ?suTooFewChairs ?opTooFewChairs ?zsTooFewChairs ?htTooFewChairs ?lTooFewChairs ?cTooFewChairs ?lcTooFewChairs ?ldTooFewChairs ?vfTooFewChairs ?fiTooFewChairs ?u1TooFewChairs ?u2TooFewChairs ?lnTooFewChairs ?gInvalidOperation ?xInvalidOperation ?kInvalidOperation ?saInvalidOperation ?gaInvalidOperation ?ggInvalidOperation ?nbInvalidOperation ?iInvalidOperation ?tfInvalidOperation ?bInvalidOperation ?tInvalidOperation ?hdInvalidOperation ?icInvalidOperation ?sInvalidOperation ?svInvalidOperation ?suInvalidOperation ?opInvalidOperation ?zsInvalidOperation ?htInvalidOperation ?lInvalidOperation ?cInvalidOperation ?lcInvalidOperation ?ldInvalidOperation ?vfInvalidOperation ?fiInvalidOperation ?u1InvalidOperation ?u2InvalidOperation ?lnInvalidOperation ?gInvalidPlan ?xInvalidPlan ?kInvalidPlan ?saInvalidPlan ?gaInvalidPlan ?ggInvalidPlan ?nbInvalidPlan ?iInvalidPlan ?tfInvalidPlan ?bInvalidPlan ?tInvalidPlan ?hdInvalidPlan ?icInvalidPlan ?sInvalidPlan ?svInvalidPlan ?suInvalidPlan ?opInvalidPlan ?zsInvalidPlan ?htInvalidPlan ?lInvalidPlan ?cInvalidPlan ?lcInvalidPlan ?ldInvalidPlan ?vfInvalidPlan ?fiInvalidPlan ?u1InvalidPlan ?u2InvalidPlan ?lnInvalidPlan ?aM ?pgM ?hdM ?poM ?saM ?mkM ?kcM ?nM0 ?nM1 ?nM2 ?nM3 ?nM4 ?aH ?pgH ?hdH ?poH ?saH ?mkH ?kcH ?nH0 ?nH1 ?nH2 ?ami ?imi ?lmi ?cmi ?kmi ?ahi ?ihi ?lhi ?chi ?khi ?krD ?aac ?iac ?lac ?cac ?kac ?amo ?imo ?lmo ?cmo ?kmo ?aru ?iru ?lru ?cru ?kru ?ame ?ime ?lme ?cme ?kme ?atu ?itu ?ltu ?ctu ?ktu ?arc ?irc ?lrc ?crc ?krc ?and ?ind ?lnd ?cnd ?knd ?ard ?ird ?lrd ?crd ?krd ?aap ?iap ?lap ?cap ?kap ?apf ?ipf ?lpf ?cpf ?kpf ?pAre ?pGre ?pTre ?pRre ?lre ?cre ?kre ?pAbl ?pGbl ?pTbl ?pRbl ?lbl ?cbl ?kbl ?pAtm ?pGtm ?pTtm ?pRtm ?ltm ?ctm ?ktm ?pAiu ?pGiu ?pTiu ?pRiu ?liu ?ciu ?kiu ?pAhy ?pGhy ?pThy ?pRhy ?lhy ?chy ?khy ?pAit ?pGit ?pTit ?pRit ?lit ?cit ?kit ?bgme ?btme ?bfme ?bgap ?btap ?bfap ?cArp ?cBrp ?cCrp ?lrp ?crp ?krp ?rdH ?gaH ?egDa ?eiDa ?etDa ?egDe ?eiDe ?etDe ?egBo ?eiBo ?etBo ?egNu ?eiNu ?etNu ?egTe ?eiTe ?etTe ?gCE ?bCE ?dCE ?tCE ?x5N ?x6N ?es_4_0 ?es_4_1 ?es_4_2 ?es_4_3 ?es_4_5 ?es_4_6 ?es_4_7 ?es_4_8 ?sC_4 ?vE_4 ?x1_4 ?x2_4 ?x3_4 ?x4_4 ?x7_4 ?nI_4 ?nR_4 ?nO_4 ?es_7_0 ?es_7_1 ?es_7_2 ?es_7_3 ?es_7_4 ?es_7_5 ?es_7_6 ?es_7_8 ?sC_7 ?vE_7 ?x1_7 ?x2_7 ?x3_7 ?x4_7 ?x7_7 ?nI_7 ?nR_7 ?nO_7 ?es_8_0 ?es_8_1 ?es_8_2 ?es_8_3 ?es_8_4 ?es_8_5 ?es_8_6 ?es_8_7 ?sC_8 ?vE_8 ?x1_8 ?x2_8 ?x3_8 ?x4_8 ?x7_8 ?nI_8 ?nR_8 ?nO_8 ?pA ?pG ?pT ?pR ?lmst ?cmst ?kmst ?pg ?hd ?po ?sa ?mk ?kc ?nS ?rd ?ga ?v1 ?v2 ?w2 ?w3 ?aT ?lT ?q_MAX_ROUNDS ?z0 ?z1 ?z2 ?z3 ?z4 ?z5 ?z6 ?z7 ?z8 ?z9 ?z10 ?z11 ?z12 ?z13 ?z14 ?z15 ?z16 ?z17 ?z18
    (case a_is_whole => k_is); (case l_is_whole => k_is); (case c_is_whole => k_is); (case k_is_whole => k_is); (case a_is_number => k_is); (case l_is_number => k_is)
    (case c_is_number => k_is); (case k_is_number => k_is); (case a_check_number => k_is); (case l_check_number => k_is); (case c_check_number => k_is); (case k_check_number => k_is)
    (case a_check_house => k_is); (case l_check_house => k_is); (case c_check_house => k_is); (case k_check_house => k_is); (case a_is_step => k_is); (case l_is_step => k_is)
    (case c_is_step => k_is); (case k_is_step => k_is); (case a__law_mix => k_is); (case l__law_mix => k_is); (case c__law_mix => k_is); (case k__law_mix => k_is)
    (case a__law_next => k_is); (case l__law_next => k_is); (case c__law_next => k_is); (case k__law_next => k_is); (case a__law_steps => k_is); (case l__law_steps => k_is)
    (case c__law_steps => k_is); (case k__law_steps => k_is); (case a__law_alike => k_is); (case l__law_alike => k_is); (case c__law_alike => k_is); (case k__law_alike => k_is)
    (case a_after_step => k_is); (case l_after_step => k_is); (case c_after_step => k_is); (case k_after_step => k_is); (case a_after_steps => k_is); (case l_after_steps => k_is)
    (case c_after_steps => k_is); (case k_after_steps => k_is); (case a_few_rounds => k_is); (case l_few_rounds => k_is); (case c_few_rounds => k_is); (case k_few_rounds => k_is)
    (case a_after_rounds => k_is); (case l_after_rounds => k_is); (case c_after_rounds => k_is); (case k_after_rounds => k_is); (case a_check_meeting => k_is); (case l_check_meeting => k_is)
    (case c_check_meeting => k_is); (case k_check_meeting => k_is); (case a_are_steps => k_is); (case l_are_steps => k_is); (case c_are_steps => k_is); (case k_are_steps => k_is)
    (case a_is_operation => k_is); (case l_is_operation => k_is); (case c_is_operation => k_is); (case k_is_operation => k_is); (case a_check_operations => k_is); (case l_check_operations => k_is)
    (case c_check_operations => k_is); (case k_check_operations => k_is); (case a__law_told => k_is); (case l__law_told => k_is); (case c__law_told => k_is); (case k__law_told => k_is)
    (case a__law_deed => k_is); (case l__law_deed => k_is); (case c__law_deed => k_is); (case k__law_deed => k_is); (case a__law_group_right => k_is); (case l__law_group_right => k_is)
    (case c__law_group_right => k_is); (case lC0 => k_is); (case v110 => exact rfl); (case tN0 => exact rfl); (case k__law_group_right => k_is); (case a_law => k_is)
    (case l_law => k_is); (case c_law => k_is); (case k_law => k_is); (case a__law_outcome => k_is); (case l__law_outcome => k_is); (case c__law_outcome => k_is)
    (case k__law_outcome => k_is); (case aC => k_is); (case aminit => k_is); (case iminit => k_is); (case lminit => k_is); (case cminit => k_is)
    (case kminit => k_is); (case amjoined => k_is); (case imjoined => k_is); (case lmjoined => k_is); (case cmjoined => k_is); (case kmjoined => k_is)
    (case gNotEnough => k_is); (case xNotEnough => k_exc); (case kNotEnough => k_is); (case bNotEnough => k_is); (case tNotEnough => exact rfl); (case iNotEnough => k_is)
    (case sNotEnough => first | rfl | k_is); (case nNotEnough => k_is); (case gTooFewChairs => k_is); (case xTooFewChairs => k_is); (case kTooFewChairs => k_is); (case saTooFewChairs => k_is)
    (case gaTooFewChairs => k_is); (case ggTooFewChairs => k_is); (case nbTooFewChairs => k_is); (case iTooFewChairs => k_is); (case tfTooFewChairs => k_is); (case bTooFewChairs => k_is)
    (case tTooFewChairs => k_is); (case hdTooFewChairs => k_is); (case icTooFewChairs => k_is); (case sTooFewChairs => first | rfl | k_is); (case svTooFewChairs => k_is); (case suTooFewChairs => ks_is)
    (case opTooFewChairs => k_is); (case zsTooFewChairs => k_is); (case htTooFewChairs => first | rfl | decide +kernel); (case lTooFewChairs => k_is); (case cTooFewChairs => k_is); (case lcTooFewChairs => k_is)
    (case ldTooFewChairs => k_is); (case vfTooFewChairs => first | exact rfl | decide +kernel); (case fiTooFewChairs => first | rfl | decide +kernel); (case u1TooFewChairs => decide +kernel); (case u2TooFewChairs => decide +kernel); (case lnTooFewChairs => first | rfl | decide +kernel)
    (case gInvalidOperation => k_is); (case xInvalidOperation => k_is); (case kInvalidOperation => k_is); (case saInvalidOperation => k_is); (case gaInvalidOperation => k_is); (case ggInvalidOperation => k_is)
    (case nbInvalidOperation => k_is); (case iInvalidOperation => k_is); (case tfInvalidOperation => k_is); (case bInvalidOperation => k_is); (case tInvalidOperation => k_is); (case hdInvalidOperation => k_is)
    (case icInvalidOperation => k_is); (case sInvalidOperation => first | rfl | k_is); (case svInvalidOperation => k_is); (case suInvalidOperation => ks_is); (case opInvalidOperation => k_is); (case zsInvalidOperation => k_is)
    (case htInvalidOperation => first | rfl | decide +kernel); (case lInvalidOperation => k_is); (case cInvalidOperation => k_is); (case lcInvalidOperation => k_is); (case ldInvalidOperation => k_is); (case vfInvalidOperation => first | exact rfl | decide +kernel)
    (case fiInvalidOperation => first | rfl | decide +kernel); (case u1InvalidOperation => decide +kernel); (case u2InvalidOperation => decide +kernel); (case lnInvalidOperation => first | rfl | decide +kernel); (case gInvalidPlan => k_is); (case xInvalidPlan => k_is)
    (case kInvalidPlan => k_is); (case saInvalidPlan => k_is); (case gaInvalidPlan => k_is); (case ggInvalidPlan => k_is); (case nbInvalidPlan => k_is); (case iInvalidPlan => k_is)
    (case tfInvalidPlan => k_is); (case bInvalidPlan => k_is); (case tInvalidPlan => k_is); (case hdInvalidPlan => k_is); (case icInvalidPlan => k_is); (case sInvalidPlan => first | rfl | k_is)
    (case svInvalidPlan => k_is); (case suInvalidPlan => ks_is); (case opInvalidPlan => k_is); (case zsInvalidPlan => k_is); (case htInvalidPlan => first | rfl | decide +kernel); (case lInvalidPlan => k_is)
    (case cInvalidPlan => k_is); (case lcInvalidPlan => k_is); (case ldInvalidPlan => k_is); (case vfInvalidPlan => first | exact rfl | decide +kernel); (case fiInvalidPlan => first | rfl | decide +kernel); (case u1InvalidPlan => decide +kernel)
    (case u2InvalidPlan => decide +kernel); (case lnInvalidPlan => first | rfl | decide +kernel); (case aM => k_is); (case pgM => k_is); (case hdM => k_is); (case poM => k_is)
    (case saM => k_is); (case mkM => k_is); (case kcM => k_is); (case nM0 => k_is); (case nM1 => k_is); (case nM2 => k_is)
    (case nM3 => k_is); (case nM4 => k_is); (case aH => k_is); (case pgH => k_is); (case hdH => k_is); (case poH => k_is)
    (case saH => k_is); (case mkH => k_is); (case kcH => k_is); (case nH0 => k_is); (case nH1 => k_is); (case nH2 => k_is)
    (case ami => k_is); (case imi => k_is); (case lmi => k_is); (case cmi => k_is); (case kmi => k_is); (case ahi => k_is)
    (case ihi => k_is); (case lhi => k_is); (case chi => k_is); (case khi => k_is); (case krD => k_is); (case aac => k_is)
    (case iac => k_is); (case lac => k_is); (case cac => k_is); (case kac => k_is); (case amo => k_is); (case imo => k_is)
    (case lmo => k_is); (case cmo => k_is); (case kmo => k_is); (case aru => k_is); (case iru => k_is); (case lru => k_is)
    (case cru => k_is); (case kru => k_is); (case ame => k_is); (case ime => k_is); (case lme => k_is); (case cme => k_is)
    (case kme => k_is); (case atu => k_is); (case itu => k_is); (case ltu => k_is); (case ctu => k_is); (case ktu => k_is)
    (case arc => k_is); (case irc => k_is); (case lrc => k_is); (case crc => k_is); (case krc => k_is); (case and => k_is)
    (case ind => k_is); (case lnd => k_is); (case cnd => k_is); (case knd => k_is); (case ard => k_is); (case ird => k_is)
    (case lrd => k_is); (case crd => k_is); (case krd => k_is); (case aap => k_is); (case iap => k_is); (case lap => k_is)
    (case cap => k_is); (case kap => k_is); (case apf => k_is); (case ipf => k_is); (case lpf => k_is); (case cpf => k_is)
    (case kpf => k_is); (case pAre => k_is); (case pGre => k_is); (case pTre => k_is); (case pRre => k_is); (case lre => k_is)
    (case cre => k_is); (case kre => k_is); (case pAbl => k_is); (case pGbl => k_is); (case pTbl => k_is); (case pRbl => k_is)
    (case lbl => k_is); (case cbl => k_is); (case kbl => k_is); (case pAtm => k_is); (case pGtm => k_is); (case pTtm => k_is)
    (case pRtm => k_is); (case ltm => k_is); (case ctm => k_is); (case ktm => k_is); (case pAiu => k_is); (case pGiu => k_is)
    (case pTiu => k_is); (case pRiu => k_is); (case liu => k_is); (case ciu => k_is); (case kiu => k_is); (case pAhy => k_is)
    (case pGhy => k_is); (case pThy => k_is); (case pRhy => k_is); (case lhy => k_is); (case chy => k_is); (case khy => k_is)
    (case pAit => k_is); (case pGit => k_is); (case pTit => k_is); (case pRit => k_is); (case lit => k_is); (case cit => k_is)
    (case kit => k_is); (case bgme => k_is); (case btme => k_is); (case bfme => k_is); (case bgap => k_is); (case btap => k_is)
    (case bfap => k_is); (case cArp => k_is); (case cBrp => k_is); (case cCrp => k_is); (case lrp => k_is); (case crp => k_is)
    (case krp => k_is); (case rdH => k_is); (case gaH => k_is); (case egDa => k_is); (case eiDa => k_is); (case etDa => k_is)
    (case egDe => k_is); (case eiDe => k_is); (case etDe => k_is); (case egBo => k_is); (case eiBo => k_is); (case etBo => k_is)
    (case egNu => k_is); (case eiNu => k_is); (case etNu => k_is); (case egTe => k_is); (case eiTe => k_is); (case etTe => k_is)
    (case gCE => k_is); (case bCE => k_is); (case dCE => k_is); (case tCE => k_is); (case x5N => k_is); (case x6N => k_is)
    (case es_4_0 => first | rfl | k_is); (case es_4_1 => first | rfl | k_is); (case es_4_2 => first | rfl | k_is); (case es_4_3 => first | rfl | k_is); (case es_4_5 => first | rfl | k_is); (case es_4_6 => first | rfl | k_is)
    (case es_4_7 => first | rfl | k_is); (case es_4_8 => first | rfl | k_is); (case sC_4 => first | rfl | k_is); (case vE_4 => k_is); (case x1_4 => k_is); (case x2_4 => k_is)
    (case x3_4 => k_is); (case x4_4 => k_is); (case x7_4 => k_is); (case nI_4 => k_is); (case nR_4 => k_is); (case nO_4 => k_is)
    (case es_7_0 => first | rfl | k_is); (case es_7_1 => first | rfl | k_is); (case es_7_2 => first | rfl | k_is); (case es_7_3 => first | rfl | k_is); (case es_7_4 => first | rfl | k_is); (case es_7_5 => first | rfl | k_is)
    (case es_7_6 => first | rfl | k_is); (case es_7_8 => first | rfl | k_is); (case sC_7 => first | rfl | k_is); (case vE_7 => k_is); (case x1_7 => k_is); (case x2_7 => k_is)
    (case x3_7 => k_is); (case x4_7 => k_is); (case x7_7 => k_is); (case nI_7 => k_is); (case nR_7 => k_is); (case nO_7 => k_is)
    (case es_8_0 => first | rfl | k_is); (case es_8_1 => first | rfl | k_is); (case es_8_2 => first | rfl | k_is); (case es_8_3 => first | rfl | k_is); (case es_8_4 => first | rfl | k_is); (case es_8_5 => first | rfl | k_is)
    (case es_8_6 => first | rfl | k_is); (case es_8_7 => first | rfl | k_is); (case sC_8 => first | rfl | k_is); (case vE_8 => k_is); (case x1_8 => k_is); (case x2_8 => k_is)
    (case x3_8 => k_is); (case x4_8 => k_is); (case x7_8 => k_is); (case nI_8 => k_is); (case nR_8 => k_is); (case nO_8 => k_is)
    (case pA => k_is); (case pG => k_is); (case pT => k_is); (case pR => k_is); (case lmst => k_is); (case cmst => k_is)
    (case kmst => k_is); (case pg => k_is); (case hd => k_is); (case po => k_is); (case sa => k_is); (case mk => k_is)
    (case kc => k_is); (case nS => k_is); (case rd => k_is); (case ga => k_is); (case v1 => k_is); (case v2 => k_is)
    (case w2 => k_is); (case w3 => k_is); (case aT => k_is); (case lT => k_is); (case q_MAX_ROUNDS => k_is); (case z0 => k_is)
    (case z1 => k_is); (case z2 => k_is); (case z3 => k_is); (case z4 => k_is); (case z5 => k_is); (case z6 => k_is)
    (case z7 => k_is); (case z8 => k_is); (case z9 => k_is); (case z10 => k_is); (case z11 => k_is); (case z12 => k_is)
    (case z13 => k_is); (case z14 => k_is); (case z15 => k_is); (case z16 => k_is); (case z17 => k_is); (case z18 => k_is)
#print axioms PySem.Challenge.cw_chaircarry_k44_whole_operations_reverted_holds
