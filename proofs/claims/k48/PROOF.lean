import PyProof.Rows.All
import Wide.All
import OpenK.AllK
import Wide.FinOn
import HandS.ForMost
import HandS.Star
import HandS.Property
import HandS.ClsMeth
import HandS.IsInst
import HandS.Wide
import HandS.Walk
import HandS.TupAny
import KE.GoesEnum
import HandS.Style
import HandS.Flt
import HandS.Conv
import HandS.SetBool
import HandS.Strs
import KE.DataFind
import HandS.Deep
import HandS.ExcIs
import KE.KRevSl
import HandS.ExcField
import HandS.GenList
import HandS.Lambda
import HandS.WordsExc
import HandS.FStr
import HandS.ExcValue
import KE.KIndexWalk
import HandS.Call
import HandS.ExcSuper
import HandS.MakeKwOnly
import KE.KExcSuper
import KE.KSuper
import HandS.EndTab
import HandS.Defaults
import PySem.Challenge.RW_chaircarry_k48_whole_codes_of_plans
set_option Elab.async false
set_option linter.all false
set_option maxRecDepth 100000
set_option maxHeartbeats 5000000
/-! Own rules: enumerate over a tuple, list.extend by a tuple, C( *xs), C() by a positional promise. -/
namespace Cc
open PySem PySem.Spec PyProof.Rows L2
/-! ### list.extend(tuple) -/
theorem extend_tup {prog : Program} {w : World} {A : Around} {Ez : Value → Shared → Prop} {s : Shared} {S it : Addr} {o : Obj} {xs items : Array Value} {n c₀ : Nat} {Qz : Fin → Shared → Prop}
    (kS : s.heap.get? S = some { cls := .type "list", data := .seq xs c₀ }) (ko : s.heap.get? it = some o) (kc : o.cls = .type "tuple") (kd : o.data = .seq items n)
    (kne : S ≠ it) (ksz : xs.size + items.size ≤ sizeLine)
    (hQ : Qz (.done (.ret .none)) { s with heap := s.heap.update S (Obj.mapSeq (· ++ items)) }) :
    wpAny (model prog w) A (Builtin.List.listExtendWith (.ref S) (.ref it) .none) Qz Ez s := by
  show wpAny _ A (Builtin.List.listExtendWith _ _ _) Qz Ez s; unfold Builtin.List.listExtendWith
  refine wpAny_bind (wpAny_typeOf ⟨o, ko, kc⟩ ?_)
  have g1 : (Builtin.List.listSameRef (.ref S) (.ref it) || Value.type "tuple" == Value.type "list" || Value.type "tuple" == Value.type "tuple") = true := by simp
  simp only [g1, if_true]
  refine wpAny_bind ?_
  unfold Builtin.List.listItems
  refine wpAny_bind (wpAny_seqItems ko kd (wpAny_pure ?_))
  refine wpAny_bind ?_
  refine wpAny_bind (wpAny_seqItems kS rfl (wpAny_pure ?_))
  have hdoor : (!xs.isEmpty && Builtin.List.listTooLong (xs.size + items.size)) = false := by rw [notLongL ksz, Bool.and_false]
  simp only [hdoor, Bool.false_eq_true, if_false]
  show wpAny _ A (updateSeq S (· ++ items) >>= fun _ => ret Value.none) _ _ s
  refine wpAny_bind (wpAny_updateSeq kS rfl ?_)
  exact wpAny_pure hQ
section
variable {X : Cx}
def rExtendT (K : PySem.W.Frag) : V → List V → Hp → VK → Prop := fun x vs Hh Qz => ∃ l b xs zs, x = .ref l ∧ vs = [.ref b] ∧ Hh l = some (.lst xs) ∧ SqT K Hh b zs ∧ xs.length + zs.length ≤ sizeLine ∧ Qz .non (upd Hh l (.lst (xs ++ zs)))
theorem mt_extendT : MtM X "list.extend" (rExtendT X.K) := by
  intro pz s sg Hh x vs v us Qz J rx rw1 h
  obtain ⟨l, b, xs, zs, rfl, rfl, kH, kB, kz, qz⟩ := h
  cases rx
  obtain ⟨u, rfl, ru⟩ := rw1.one
  cases ru
  obtain ⟨z, vz, n, r, kl, e⟩ := J.lstM kH
  obtain ⟨vz2, r2, ⟨o, ko, kc, n2, kd⟩, kz2⟩ := J.tuple kB
  have hl2 := r2.length
  have kne : l ≠ b := fun qz => by
    subst qz
    rw [e] at ko
    cases ko
    have hc' : Value.type "list" = Value.type "tuple" := kc
    injection hc' with g1
    exact absurd g1 (by decide)
  have ksz : vz.toArray.size + vz2.toArray.size ≤ sizeLine := by rw [List.size_toArray, List.size_toArray]; omega
  refine call_meets (S := fun _ R s' => s' = s ∧ R (.ok (.ret Value.none)) { s with heap := s.heap.update l (Obj.mapSeq fun x => x ++ vz2.toArray) }) F.slot_list_extend ⟨_, e, rfl⟩ F.entry_list_extend (F.args_list_extend_2 _ _) ?_ ⟨rfl, ?_⟩
  · refine .of_wp fun prog w A R s' h => ?_
    obtain ⟨ks, h⟩ := h
    subst ks
    exact extend_tup e ko kc kd kne ksz ⟨_, rfl, h⟩
  · refine ⟨.non, _, J.lset (its' := vz ++ vz2) kH e (by simp) (r.append r2) ?_, rfl, qz⟩
    rw [List.length_append]
    omega
end
/-! ### enumerate(tuple) -/
/-- the enumerate object over the iterator at i -/
abbrev eOb (i : Addr) : Obj := { cls := .type "enumerate", data := .fields #[.none, .bool false, .ref i, rawInt 0, .none, .none] }
theorem meets_enum1 {v : Value} {o : Obj} {Hh : Heap → Prop} (Bz : Begins v o Hh) :
    Meets (Builtin.«enumerate.__new__» ⟨[.type "enumerate", v], []⟩) (fun _ R s => Hh s.heap ∧
      R (.ok (.ret (.ref (s.heap.push o).objs.size))) { s with heap := (s.heap.push o).push (eOb s.heap.objs.size) }) :=
  .of_wp fun pp ww A R s h => by
    obtain ⟨hp, g, d, tk, os⟩ := s; obtain ⟨g1, h⟩ := h
    have hsub := sub_enumerate
    have qz1 : ∀ {A' : Around} {Ez : Value → Shared → Prop} {Qz : Value → Shared → Prop}, Qz (.ref hp.objs.size) ⟨hp.push o, g, d, tk, os⟩ → wpAny (model pp ww) A' (pyIter v) Qz Ez ⟨hp, g, d, tk, os⟩ :=
      fun qz => Bz.iter pp ww _ _ ⟨hp, g, d, tk, os⟩ _ g1 qz
    wp_walk using qz1
    refine wpAny_stack_any fun zs => wpAny_pure ?_
    split
    · rename_i cz _ _ _ _ _
      cases (cz == Value.type "enumerate")
      · wp_walk using qz1
        exact ⟨_, rfl, h⟩
      · wp_walk using qz1
        exact ⟨_, rfl, h⟩
    · wp_walk using qz1
      exact ⟨_, rfl, h⟩
section
variable {prog : Program} {w : World} {A : Around} {Ez : Value → Shared → Prop} {s : Shared}
theorem call_enum1 {v : Value} {o : Obj} {Hh : Heap → Prop} {Qz : Value → Shared → Prop} (Bz : Begins v o Hh) (g1 : Hh s.heap)
    (h : ∀ h', IsEnum h' (s.heap.objs.size + 1) s.heap.objs.size 0 .none → h'.get? s.heap.objs.size = some o → h'.objs.size = s.heap.objs.size + 2 →
      (∀ b o, s.heap.get? b = some o → h'.get? b = some o) → Qz (.ref (s.heap.objs.size + 1)) { s with heap := h' }) :
    wpAny (model prog w) A (call (.type "enumerate") [v]) Qz Ez s := by
  have kz := Heap.size_push s.heap o
  have ke : IsEnum ((s.heap.push o).push (eOb s.heap.objs.size)) (s.heap.objs.size + 1) s.heap.objs.size 0 .none := kz ▸ Heap.get?_push_size (s.heap.push o) (o := eOb s.heap.objs.size) rfl
  refine callType_new F.called_enumerate (by decide)
    (F.typeCall_enumerate_1 _) (F.newCall_enumerate_1 _) (fun z => F.args_object_init_2 z _)
    F.entry_enumerate_new (meets_enum1 Bz) ⟨g1, ?_⟩
  show _ ∧ _
  rw [kz]
  refine ⟨⟨_, ke, rfl⟩, h _ ke (Heap.get?_push_of_some _ (Heap.get?_push_size _ Bz.free)) (by rw [Heap.size_push, kz]) fun b o x => Heap.get?_push_of_some _ (Heap.get?_push_of_some _ x)⟩
end
section
variable {prog : Program} {w : World} {A : Around} {Ez : Value → Shared → Prop} {s : Shared}
theorem pyNext_enum_end {e it t : Addr} {i : Nat} {items : Array Value} {c : Int} {olz : Value} {Qz : Option Value → Shared → Prop} (kx : items[i]? = none)
    (kh : A.in1.handled = none) (ke : IsEnum s.heap e it c olz) (kit : s.heap.IsTupleIter it t i) (ht : s.heap.IsTuple t items)
    (hQ : ∀ h', Heap.ExtBut it s.heap h' → Qz none { s with heap := h' }) : wpAny (model prog w) A (pyNext (.ref e)) Qz Ez s := by
  have kT : s.TypeIs (.ref e) "enumerate" := ⟨_, ke, rfl⟩
  unfold pyNext
  refine wpAny_bind (wpAny_attempt (wpAny_callSpecial?_slot (name := Str.ofString "__next__") kT F.slot_enumerate_next
    (wpAny_call_entry F.slot_enumerate_next kT F.entry_enumerate_next ?_ (F.args_enumerate_next_1 _))))
  show wpAny _ _ (field (Value.ref e) 2 >>= _) _ _ s
  refine wpAny_bind (wpAny_field ke rfl (x := .ref it) rfl ?_)
  refine wpAny_bind (wpAny_nextOf_tuple_end kh kit ht kx fun h' x ke' hx' => ?_)
  obtain ⟨o, ko, kc⟩ := hx'
  refine wpAny_bind (wpAny_isInstance (T := "StopIteration") (b := true) ⟨o, ko, kc⟩ isSubtype_stop ?_)
  exact wpAny_pure (hQ _ ke')
end
/-- the tuple at a, each item in a nw pair -/
def IteT (K : PySem.W.Frag) (a : Addr) : It :=
  ⟨fun i Hh => ∃ (xs : List V) (x : V), SqT K Hh a xs ∧ xs[i]? = some x, fun i Hh v H' => ∃ T x, v = .ref T ∧ Hh T = none ∧ H' = upd Hh T (.tup [.int (i : Nat), x]) ∧ ∀ xs, SqT K Hh a xs → xs[i]? = some x, fun i Hh => ∃ xs : List V, SqT K Hh a xs ∧ xs.length ≤ i⟩
theorem turn_enumT {P : Program} {w : World} {K : PySem.W.Frag} {elts : List Expr} {kk : Nat} {tpos : Pos} (a e it : Addr) :
    Turn P w K (.Tuple elts kk tpos) (IteT K a) [e, it] e (fun i h => (∃ olz, IsEnum h e it ((i : Nat) : Int) olz) ∧ h.IsTupleIter it a i ∧ e ≠ it ∧ a ≠ e ∧ a ≠ it) where
  mem := by simp
  obj := fun i h st b kb => by
    obtain ⟨⟨olz, ke⟩, ⟨o, ko, kc, kd⟩, _⟩ := st
    have ee : b = e ∨ b = it := by simpa using kb
    rcases ee with z | z
    · rw [z]; exact ⟨_, ke, fun v qz => nomatch qz⟩
    · rw [z]; exact ⟨o, ko, fun v qz => by rw [kd] at qz; cases qz⟩
  keep := fun i h h' st k => let ⟨⟨olz, ke⟩, hi, kne⟩ := st; ⟨⟨olz, k e (by simp) _ ke⟩, hi.at fun o qz => k it (by simp) o qz, kne⟩
  item := by
    intro X kP kw kK kc i pz s sg Hh Ez J kf st kg
    subst kP kw kK
    obtain ⟨⟨olz, ke⟩, kit, kne, kae, kai⟩ := st
    obtain ⟨xs, x, kq, kx⟩ := kg
    obtain ⟨vz, rw1, p, kz⟩ := J.tuple kq
    have kel : e < s.heap.objs.size := Heap.lt_size ke
    have kil : it < s.heap.objs.size := by obtain ⟨_, qz, _⟩ := kit; exact Heap.lt_size qz
    have hix : i < vz.toArray.size := by
      have := rw1.length
      have h2 := (List.getElem?_eq_some_iff.mp kx).1
      rw [List.size_toArray]
      omega
    have Dz := Draws.tuple (prog := X.prog) (w := X.w) (A := X.A.in1) (show X.A.in1.handled = none from J.ok.hd kc) it a kai vz.toArray
    refine wpAny_pyNext_enum_itemD Dz ke ⟨kit, p⟩ hix kne (by simp [kne, Ne.symm kae]) fun u h' tk ku ko hit' kT ksz kk => ?_
    have ru : RelV x u := by
      obtain ⟨u2, hu2, r2⟩ := rw1.get kx
      have e3 : u2 = u := by
        have ku' : vz[i]? = some u := by simpa using ku
        exact Option.some.inj (hu2.symm.trans ku')
      exact e3 ▸ r2
    refine ⟨_, rfl, wpAny_letOwnedTupleGo_enum (s := { s with heap := h', toks := tk + 1 }) ko fun h'' ke' sbz => ?_⟩
    have kT2 : h''.get? s.heap.objs.size = some { cls := .type "tuple", data := .seq #[.int i tk, u] } := (sbz.2 _ (Nat.ne_of_gt kel)).trans kT
    have nw : ObjOk X.prog X.w (upd Hh s.heap.objs.size (.tup [.int (i : Nat), x])) h'' s.heap.objs.size (.tup [.int (i : Nat), x]) :=
      ⟨by show 2 ≤ sizeLine; decide, [.int i tk, u], .cons ⟨_, rfl⟩ (.cons ru .nil), ⟨_, kT2, rfl, _, rfl⟩⟩
    have J1 : Inv X pz sg (upd Hh s.heap.objs.size (.tup [.int (i : Nat), x])) { s with heap := h'', toks := tk + 1 } :=
      J.turnedNew (ch := [e, it]) (fun b ob kb qz => (sbz.2 b (fun z => kb (by simp [z]))).trans (kk b ob (fun z => kb (by simp [z])) (fun z => kb (by simp [z])) qz)) kf (Nat.le_refl _) nw
    refine ⟨.ref s.heap.objs.size, _, J1, rfl, ⟨_, x, rfl, J.hok.fresh (Nat.le_refl _), rfl, fun ys hy => by rw [J.tuple_inj hy kq]; exact kx⟩, ⟨⟨u, ?_⟩, hit'.1.at fun o qz => (sbz.2 it (Ne.symm kne)).trans qz, kne, kae, kai⟩, fun b kb => ?_⟩
    · have e1 : (((i + 1 : Nat)) : Int) = (i : Int) + 1 := by omega
      rw [e1]; exact ke'
    · have kb' : b < s.heap.objs.size := by
        have ee : b = e ∨ b = it := by simpa using kb
        rcases ee with z | z
        · rw [z]; exact kel
        · rw [z]; exact kil
      rw [upd_ne (Nat.ne_of_lt kb')]
      exact (kf b kb).1
  done := by
    intro X kP kw kK kc i pz s sg Hh Ez J kf st kg
    subst kP kw kK
    obtain ⟨⟨olz, ke⟩, kit, kne, kae, kai⟩ := st
    obtain ⟨xs, kq, kx⟩ := kg
    obtain ⟨vz, rw1, p, kz⟩ := J.tuple kq
    obtain ⟨f0, f1, f2, f3, f4, f5⟩ := kf it (by simp)
    have hl := rw1.length
    exact pyNext_enum_end (by simp; omega) (show X.A.in1.handled = none from J.ok.hd kc) ke kit p fun h' eb => ⟨rfl, J.turned (t' := s.toks) (fun b o kb qz => eb b o kb qz) f0 f1 f3 f4 f5⟩
  self := fun A i s Qz Ez st h => let ⟨⟨_, ke⟩, _⟩ := st; wpAny_pyIter_enum ke h
def iEnumT (K : PySem.W.Frag) (ta : TA) : TI := fun sg Hh R => ta sg Hh fun vs H1 => ∃ a xs, vs = [.ref a] ∧ SqT K H1 a xs ∧ R (IteT K a) H1
theorem pi_enumT {X : Cx} {e : Expr} {ta : TA} {p pos tpos : Pos} {elts : List Expr} {kk : Nat} (kg : Gl X "enumerate") (km : X.mg "enumerate" = none) (ka : PA X [e] ta) (ks : starEach [e] X.env = [(false, eval e X.env)] := by rfl) :
    PI X (.Tuple elts kk tpos) (.Call (.Name "enumerate" p) [e] [] pos) (iEnumT X.K ta) := by
  refine ⟨fun pz s sg Hh R J h => ?_⟩
  refine Call_ (ld_blt J kg km boot_enumerate (PyProof.Rows.callWith_type1 (thn (ka.run pos pz s sg Hh _ J h) fun us s1 ⟨vs, H1, J1, r1, qz1⟩ => ?_) ks rfl))
  obtain ⟨a, xs, ex, kq, qz⟩ := qz1
  subst ex
  cases r1 with
  | cons r rr =>
    cases rr
    cases r
    obtain ⟨vz, rw1, p', kz⟩ := J1.tuple kq
    have hal : a < s1.heap.objs.size := p'.lt
    refine call_enum1 (begins_tuple a vz.toArray) p' fun h' ke kit ksz kk => wpAny_pyIter_enum ke ?_
    have J2 : Inv X pz sg H1 { s1 with heap := h' } := J1.kept (t' := s1.toks) kk
    refine ⟨s1.heap.objs.size + 1, [s1.heap.objs.size + 1, s1.heap.objs.size], _, _, H1, rfl, J2, turn_enumT a (s1.heap.objs.size + 1) s1.heap.objs.size, ⟨⟨.none, ke⟩, ⟨_, kit, rfl, rfl⟩, Nat.succ_ne_self _, Nat.ne_of_lt (Nat.lt_succ_of_lt hal), Nat.ne_of_lt hal⟩, fun b kb => ?_, qz⟩
    have ee : b = s1.heap.objs.size + 1 ∨ b = s1.heap.objs.size := by simpa using kb
    have kle : s1.heap.objs.size ≤ b := by
      rcases ee with z | z
      · subst z; exact Nat.le_succ _
      · rw [z]; exact Nat.le_refl _
    exact J1.fpOk kle (J1.hok.fresh kle)
theorem walk_enumT {K : PySem.W.Frag} {a : Addr} {xs : List V} : Walk (IteT K a) xs.length (fun Hh => SqT K Hh a xs) (YPair (fun i => some (.int (i : Nat))) (fun i => xs[i]?)) := by
  refine ⟨fun i _ hi qz => ⟨xs, xs[i], qz, by simp [hi]⟩, fun _ qz => ⟨xs, qz, Nat.le_refl _⟩, fun i Hh v H' _ qz y => ?_⟩
  obtain ⟨T, x, g1, g2, g3, g4⟩ := y
  exact ⟨T, .int (i : Nat), x, g1, g2, g3, rfl, g4 xs qz⟩
/-! ### C( *xs), C() by a positional promise -/
def tMakeS (K : PySem.W.Frag) (C : Addr) (sp : Sp) (Ez : XK) (te : TE) : TE := fun sg Hh Qz => te sg Hh fun y H1 => ∃ a xs, y = V.ref a ∧ (SqT K H1 a xs ∨ SqL K H1 a xs) ∧ ∀ x dx, H1 x = Option.none → H1 dx = Option.none → dx ≠ x →
  sp (V.ref x :: xs) (upd (upd H1 dx (.own x)) x (.ins C dx [])) (fun v H2 => v = .non ∧ Qz (.ref x) H2) Ez
section
variable {X : Cx} {CX : CXT} {k : Nat} {f C : Addr} {sp : Sp} {Ez : XK} {x : Str} {e : Expr} {te : TE} {p sp_ pos : Pos}
theorem pe_makeS (M : Mk X.K C f) (F : FnR X.prog X.w X.K X.mg X.base CX k f sp) (kr : Room (k + 1) X.A) (kg : Gl X x) (km : X.mg x = some (.ref C)) (kx : Passes CX X Ez) (ke : PE X e te) (kdb : (x == ("__debug__" : Str)) = false := by decide)
    (kst : starEach [.Starred e sp_] X.env = [(true, eval e X.env)] := by rfl) : PE X (.Call (.Name x p) [.Starred e sp_] [] pos) (tMakeS X.K C sp Ez te) := by
  refine ⟨fun pz s sg Hh Qz J h => ?_⟩
  refine wpAny_Call_Name_kw (ld_glob J kg km ?_ kdb)
  refine PySem.W.callWith_S (h₀ := X.base) J.ok.mod.kin M.kp (thn (ke.run pz s sg Hh _ J h) fun v s1 ⟨y, H1, J1, ry, a, xs, ey, kxs, qz⟩ => ?_) kst
  subst ey
  cases (show v = Value.ref a from ry)
  exact StX.star_any J1 kxs fun us s2 J2 rw1 => ⟨J2.kIn, StX.run_makeR M F kr kx J2 rw1 qz⟩
theorem pe_makeR0 (M : Mk X.K C f) (F : FnR X.prog X.w X.K X.mg X.base CX k f sp) (kr : Room (k + 1) X.A) (kg : Gl X x) (km : X.mg x = some (.ref C)) (kx : Passes CX X Ez) (kdb : (x == ("__debug__" : Str)) = false := by decide) :
    PE X (.Call (.Name x p) [] [] pos) (StX.tMakeR C sp Ez tNil) := by
  refine ⟨fun pz s sg Hh Qz J h => ?_⟩
  refine wpAny_Call_Name_kw (ld_glob J kg km ?_ kdb)
  exact PySem.W.callWith_K0 J.kIn M.kp (StX.run_makeR (us := []) M F kr kx J .nil h)
end
/-! ### f(e, ..) by a positional promise -/
section
variable {X : Cx} {CX : CXT} {k : Nat} {f : Addr} {sp : Sp} {Ez : XK} {x : Str} {e : Expr} {es : List Expr} {t : TA} {p pos : Pos}
theorem pe_callR (F : FnR X.prog X.w X.K X.mg X.base CX k f sp) (kr : Room k X.A) (kg : Gl X x) (km : X.mg x = some (.ref f)) (kk : PySem.W.keepIn X.K (.ref f) = true) (kx : Passes CX X Ez) (ka : PA X (e :: es) t) (kdb : (x == ("__debug__" : Str)) = false := by decide)
    (ke : starEach (e :: es) X.env = (false, eval e X.env) :: starEach es X.env := by rfl) (kpl : (backTo pos (starEach es X.env)).any (·.1) = false := by rfl) :
    PE X (.Call (.Name x p) (e :: es) [] pos) (fun sg Hh Qz => t sg Hh fun vs H1 => sp vs H1 Qz Ez) := by
  refine ⟨fun pz s sg Hh Qz J h => ?_⟩
  refine wpAny_Call_Name_kw (ld_glob J kg km ?_ kdb)
  refine PySem.W.callWith_K (h₀ := X.base) J.ok.mod.kin kk (thn (ka.run pos pz s sg Hh _ J h) fun us s1 ⟨vs, H1, J1, r, qz⟩ => ⟨J1.kIn, ?_⟩) ke kpl
  exact wpAny_call (run_fnR F kr kx J1 r qz)
end
/-- a def of the module as a callee: where it is, that it is kept, vz promise -/
structure Dn (P : Program) (w : World) (K : PySem.W.Frag) (mg : Str → Option Value) (base : Heap) (k : Nat) (x : Str) (f : Addr) (sp : Sp) : Prop where
  at_ : mg x = some (.ref f)
  kp : PySem.W.keepIn K (Value.ref f) = true
  ok : FnR P w K mg base CX0 k f sp
/-! ### *steps: the tuple that a call lays is locked -/
section
variable {CX : CXT} {P : Program} {w : World} {K : PySem.W.Frag} {mg : Str → Option Value} {base : Heap} {k : Nat} {f : Addr} {name qual : Str} {params : Arguments} {body : List Stmt} {scope : Scope} {dV kV doc pm cdv ct oc : Value} {an od : Option Addr} {osl : Array (Option Value)} {N ps : List Str} {sp : Sp} {pv : Str}
theorem fn_starZ (lk : K.lookup f = some ⟨oc, od, .func (PySem.W.fnOf name qual params body scope dV kV doc pm an cdv ct), osl⟩) (hcd : PySem.W.codeIn K cdv qual = true) (S : FnScope N (ps ++ [pv]) scope) (hCX : StX.CXUp CX)
    (hb : ∀ us rest : List Value, us.length = ps.length → bindArgs (PySem.W.fnOf name qual params body scope dV kV doc pm an cdv ct) ⟨us ++ rest, []⟩ = (newTuple rest >>= fun t => pure (ps.zip us ++ [(pv, t)]))) (hy : ∀ (A : Around) (outer : List Env) (s : Shared) (H : Hp) (vs : List V) (Q : VK) (E : XK), Room k (A.deeper (envOfC qual scope s.heap.objs.size f cdv)) → sp vs H Q E → ∃ t, PSs (cxOf CX P w K mg base N qual scope f cdv A outer s H E) body t ∧ t { nx := fun _ H' => Q .non H', rt := Q } (L2.start N vs) H) :
    FnR P w K mg base CX (k + 1) f (fun vs H Q E => ∃ ws rest, vs = ws ++ rest ∧ ws.length = ps.length ∧ rest.length ≤ sizeLine ∧ ∀ (p : Addr) (ob : Obj), H p = Option.none → ob.dict = Option.none → sp (ws ++ [V.ref p]) (upd H p (.frz ob (.tup rest))) Q E) := by
  rintro A outer s H us vs Q E hr e0 r ⟨ws, rest, rfl, hl, hz, hq⟩
  obtain ⟨u1, u2, rfl, r1, r2⟩ := StX.vals_split r
  have hn : H s.heap.objs.size = Option.none := e0.hok.fresh (Nat.le_refl _); have l1 : u1.length = ps.length := r1.length.symm.trans hl
  have l2 : u2.length ≤ sizeLine := (by rw [← r2.length]; exact hz)
  refine StX.run_bnd lk hcd S hr e0 (G := fun xs H2 => ∃ (p : Addr) (ob : Obj), H p = Option.none ∧ ob.dict = Option.none ∧ xs = ws ++ [V.ref p] ∧ H2 = upd H p (.frz ob (.tup rest))) (fun A' Ex Q' h => ?_) fun s2 H2 xs ⟨p, ob, hp, hd, ex, eH⟩ hr' => ?_
  · rw [hb u1 u2 l1]
    refine wpAny_bind (wpAny_newTuple (wpAny_pure ?_) l2)
    have at_ : (s.heap.push ({ cls := .type "tuple", data := .seq u2.toArray } : Obj)).get? s.heap.objs.size = some { cls := .type "tuple", data := .seq u2.toArray } := Heap.get?_push_size _ rfl
    have new : ObjOk P w (upd H s.heap.objs.size (.frz { cls := .type "tuple", data := .seq u2.toArray } (.tup rest))) (s.heap.push ({ cls := .type "tuple", data := .seq u2.toArray } : Obj)) s.heap.objs.size (.frz { cls := .type "tuple", data := .seq u2.toArray } (.tup rest)) :=
      ⟨at_, hz, u2, r2, ⟨_, at_, rfl, _, rfl⟩⟩
    have un := StX.un_laid (fs := frs outer) (s := s) (o := ({ cls := .type "tuple", data := .seq u2.toArray } : Obj)) (u := .frz { cls := .type "tuple", data := .seq u2.toArray } (.tup rest)) hn
    have z := h _ _ (ws ++ [V.ref s.heap.objs.size]) (u1 ++ [Value.ref s.heap.objs.size]) (StX.env0_laid e0 new) un rfl (fun e s' => hCX outer s H _ _ E e s' un (fun b o q => Heap.get?_push_of_some _ q) rfl) (r1.append (.cons rfl .nil))
      (by rw [List.length_append, List.length_append, hl] <;> rfl) ⟨_, { cls := .type "tuple", data := .seq u2.toArray }, hn, rfl, rfl, rfl⟩
    rw [List.zip_append l1.symm] at z
    exact z
  · subst ex eH
    exact hy A outer s2 _ _ Q E hr' (hq p ob hp hd)
end
end Cc

/-! The data (steps, plans, the drawing's state over the heap) and the mathematics. -/
namespace Cc
open PySem PySem.Spec PyProof.Rows L2
/-! ### steps -/
inductive Stp where
  | turn
  | meet (red : Bool) (n : Int)
def roomS (b : Bool) : Str := if b then "red" else "blue"
def stpV : Stp → List V
  | .turn => [.str "turn"]
  | .meet b n => [.str (roomS b), .int n]
def Stp.ok (c : Int) : Stp → Prop
  | .turn => True
  | .meet _ n => 0 ≤ n ∧ n ≤ c
theorem Stp.ok.mono {s : Stp} {c d : Int} (h : s.ok c) (hd : c ≤ d) : s.ok d := by
  cases s with
  | turn => trivial
  | meet b n => exact ⟨h.1, Int.le_trans h.2 hd⟩
def mx (i j : Int) : Int := if j > i then j else i
theorem mx_eq (i j : Int) : mx i j = max i j := by unfold mx; omega
/-- what a step leaves in the red room, and carries: the code's own way -/
def stepF (c : Int) (s : Stp) (r : Int) : Int × Int := match s with
  | .turn => (c - r, 0)
  | .meet true n => (r + mx 0 (n - r), mx 0 (n - r))
  | .meet false n => (r - mx 0 (n - (c - r)), mx 0 (n - (c - r)))
/-- steps: the red room, the sum -/
def stepsF (c : Int) : List Stp → Int × Int → Int × Int
  | [], x => x
  | s :: ss, x => stepsF c ss ((stepF c s x.1).1, x.2 + (stepF c s x.1).2)
theorem stepsF_app (c : Int) : ∀ (a b : List Stp) (x : Int × Int), stepsF c (a ++ b) x = stepsF c b (stepsF c a x)
  | [], _, _ => rfl
  | s :: a, b, x => by
    show stepsF c (a ++ b) _ = stepsF c b (stepsF c a _)
    exact stepsF_app c a b _
theorem stepsF_one (c : Int) (a : List Stp) (s : Stp) (x : Int × Int) : stepsF c (a ++ [s]) x = ((stepF c s (stepsF c a x).1).1, (stepsF c a x).2 + (stepF c s (stepsF c a x).1).2) := by
  rw [stepsF_app]
  rfl
theorem stepsF_add (c : Int) : ∀ (a : List Stp) (r t : Int), stepsF c a (r, t) = ((stepsF c a (r, 0)).1, t + (stepsF c a (r, 0)).2)
  | [], r, t => by simp [stepsF]
  | s :: a, r, t => by
    show stepsF c a _ = ((stepsF c a _).1, t + (stepsF c a _).2)
    rw [stepsF_add c a (stepF c s r).1 (t + (stepF c s r).2), stepsF_add c a (stepF c s r).1 (0 + (stepF c s r).2)]
    simp only [Prod.mk.injEq, true_and]
    omega
theorem take_more {α : Type} : ∀ {l : List α} {i : Nat} {x : α}, l[i]? = some x → l.take (i + 1) = l.take i ++ [x]
  | [], i, x, h => by simp at h
  | a :: l, 0, x, h => by
    have e : a = x := Option.some.inj h
    subst e
    rfl
  | a :: l, i + 1, x, h => by
    have ih := take_more (l := l) (i := i) (x := x) h
    show a :: l.take (i + 1) = a :: l.take i ++ [x]
    rw [ih]
    rfl
/-- the red room stays within the house -/
theorem stepF_in {c : Int} {s : Stp} {r : Int} (hs : s.ok c) (h0 : 0 ≤ r) (h1 : r ≤ c) : 0 ≤ (stepF c s r).1 ∧ (stepF c s r).1 ≤ c ∧ 0 ≤ (stepF c s r).2 ∧ (stepF c s r).2 ≤ c := by
  cases s with
  | turn => simp only [stepF]; omega
  | meet b n =>
    obtain ⟨h2, h3⟩ := hs
    cases b <;> simp only [stepF, mx] <;> split <;> omega
theorem stepsF_in {c : Int} : ∀ {ss : List Stp} {r t : Int}, (∀ s ∈ ss, s.ok c) → 0 ≤ r → r ≤ c → 0 ≤ t → 0 ≤ (stepsF c ss (r, t)).1 ∧ (stepsF c ss (r, t)).1 ≤ c ∧ 0 ≤ (stepsF c ss (r, t)).2
  | [], r, t, _, h0, h1, ht => ⟨h0, h1, ht⟩
  | s :: ss, r, t, hs, h0, h1, ht => by
    obtain ⟨a, b, d, _⟩ := stepF_in (hs s List.mem_cons_self) h0 h1
    exact stepsF_in (ss := ss) (fun x hx => hs x (List.mem_cons_of_mem _ hx)) a b (by show 0 ≤ t + (stepF c s r).2; omega)
/-- rounds -/
def roundsF (c : Int) (ss : List Stp) : Nat → Int × Int → Int × Int
  | 0, x => x
  | n + 1, x => roundsF c ss n (stepsF c ss x)
theorem roundsF_succ (c : Int) (ss : List Stp) : ∀ (n : Nat) (x : Int × Int), roundsF c ss (n + 1) x = stepsF c ss (roundsF c ss n x)
  | 0, x => rfl
  | n + 1, x => by
    show roundsF c ss (n + 1) (stepsF c ss x) = _
    rw [roundsF_succ c ss n (stepsF c ss x)]
    rfl
theorem roundsF_in {c : Int} {ss : List Stp} (hs : ∀ s ∈ ss, s.ok c) : ∀ {n : Nat} {r t : Int}, 0 ≤ r → r ≤ c → 0 ≤ t → 0 ≤ (roundsF c ss n (r, t)).1 ∧ (roundsF c ss n (r, t)).1 ≤ c ∧ 0 ≤ (roundsF c ss n (r, t)).2
  | 0, r, t, h0, h1, ht => ⟨h0, h1, ht⟩
  | n + 1, r, t, h0, h1, ht => by
    rw [roundsF_succ]
    obtain ⟨a, b, d⟩ := roundsF_in hs (n := n) h0 h1 ht
    exact stepsF_in hs a b d
/-- behind n rounds -/
def afterF (c : Int) (ss : List Stp) (r : Int) (n : Nat) : Int × Int := roundsF c ss n (r, 0)

/-! ### steps over the heap -/
def StepAt (H : Hp) (v : V) (s : Stp) : Prop := ∃ t, v = .ref t ∧ H t = some (.tup (stpV s))
def Steps (H : Hp) (vs : List V) (ss : List Stp) : Prop := Paired (StepAt H) vs ss
theorem Steps.get {H : Hp} : ∀ {vs : List V} {ss : List Stp} {i : Nat} {v : V}, Steps H vs ss → vs[i]? = some v → ∃ s, ss[i]? = some s ∧ StepAt H v s
  | [], [], i, v, .nil, e => by simp at e
  | _, _, 0, v, .cons r _, e => by
    have e' : _ = v := Option.some.inj e
    subst e'
    exact ⟨_, rfl, r⟩
  | _, _, i + 1, v, .cons _ t, e => by
    obtain ⟨s, h1, h2⟩ := Steps.get (i := i) (v := v) t e
    exact ⟨s, h1, h2⟩
theorem Steps.length {H : Hp} {vs : List V} {ss : List Stp} (h : Steps H vs ss) : vs.length = ss.length := Paired.length h
theorem Steps.append {H : Hp} : ∀ {vs ws : List V} {ss us : List Stp}, Steps H vs ss → Steps H ws us → Steps H (vs ++ ws) (ss ++ us)
  | _, _, _, _, .nil, b => b
  | _, _, _, _, .cons r t, b => .cons r (Steps.append t b)
theorem Steps.mono {H H' : Hp} {vs : List V} {ss : List Stp} (h : Steps H vs ss) (k : ∀ t xs, H t = some (.tup xs) → H' t = some (.tup xs)) : Steps H' vs ss :=
  Paired.mapP h fun _ _ ⟨t, e, q⟩ => ⟨t, e, k t _ q⟩
theorem Steps.same {H H' : Hp} {vs : List V} {ss : List Stp} (h : Steps H vs ss) (k : Same H H') : Steps H' vs ss := h.mono fun t xs e => k t _ e
theorem Steps.get2 {H : Hp} {vs : List V} {ss : List Stp} (h : Steps H vs ss) {i : Nat} {s : Stp} (e : ss[i]? = some s) : ∃ v, vs[i]? = some v ∧ StepAt H v s := by
  have hi : i < vs.length := by rw [h.length]; exact (List.getElem?_eq_some_iff.mp e).1
  obtain ⟨s', h1, h2⟩ := h.get (List.getElem?_eq_getElem hi)
  rw [e] at h1
  cases h1
  exact ⟨_, List.getElem?_eq_getElem hi, h2⟩
/-- a tuple that is locked and has no dict of its own -/
def TupP (H : Hp) (tp : Addr) (ws : List V) : Prop := ∃ o : Obj, o.dict = none ∧ H tp = some (.frz o (.tup ws))
theorem TupP.same {H H' : Hp} {tp : Addr} {ws : List V} (h : TupP H tp ws) (k : Same H H') : TupP H' tp ws :=
  let ⟨o, d, e⟩ := h
  ⟨o, d, k _ _ e⟩
theorem TupP.sq {K : PySem.W.Frag} {H : Hp} {tp : Addr} {ws : List V} (h : TupP H tp ws) : SqT K H tp ws :=
  let ⟨o, _, e⟩ := h
  .inl (.inr ⟨o, e⟩)
theorem TupP.ne {H : Hp} {tp l : Addr} {ws : List V} (h : TupP H tp ws) (hl : H l = none) : tp ≠ l := fun z => by
  obtain ⟨o, _, e⟩ := h
  rw [z, hl] at e
  cases e
/-- a plan -/
def PlanAt (C : Addr) (H : Hp) (p : Addr) (ss : List Stp) : Prop := ∃ dx tp ws, H p = some (.ins C dx [("step_tuple", .ref tp)]) ∧ TupP H tp ws ∧ Steps H ws ss
theorem PlanAt.same {C : Addr} {H H' : Hp} {p : Addr} {ss : List Stp} (h : PlanAt C H p ss) (k : Same H H') : PlanAt C H' p ss :=
  let ⟨dx, tp, ws, a, b, d⟩ := h
  ⟨dx, tp, ws, k _ _ a, b.same k, d.same k⟩
/-- all but what stands at s is as it was -/
def But (s : Addr) (H H' : Hp) : Prop := ∀ b o, b ≠ s → H b = some o → H' b = some o
theorem But.refl (s : Addr) (H : Hp) : But s H H := fun _ _ _ e => e
theorem But.trans {s : Addr} {H H1 H2 : Hp} (a : But s H H1) (b : But s H1 H2) : But s H H2 := fun c o n e => b c o n (a c o n e)
theorem But.of {s : Addr} {H H' : Hp} (a : Same H H') : But s H H' := fun c o _ e => a c o e
/-- a list that nobody writes: locked, or of the written part -/
def SqF (K : PySem.W.Frag) (H : Hp) (a : Addr) (xs : List V) : Prop := (∃ o, H a = some (.frz o (.lst xs))) ∨ SqL K (fun _ => none) a xs
theorem SqF.sq {K : PySem.W.Frag} {H : Hp} {a : Addr} {xs : List V} (h : SqF K H a xs) : SqL K H a xs := by
  rcases h with h | ((h | ⟨o, h⟩) | h)
  · exact .inl (.inr h)
  · cases h
  · cases h
  · exact .inr h
theorem SqF.keep {K : PySem.W.Frag} {H H' : Hp} {a : Addr} {xs : List V} (h : SqF K H a xs) (k : ∀ b o u, H b = some (.frz o u) → H' b = some (.frz o u)) : SqF K H' a xs := by
  rcases h with ⟨o, h⟩ | h
  · exact .inl ⟨o, k _ _ _ h⟩
  · exact .inr h
theorem sqF_of {K : PySem.W.Frag} {H : Hp} {a : Addr} {xs : List V} (h : SqL K H a xs) (o : Only H) : SqF K H a xs := by
  rcases h with (h | h) | h
  · rcases o a with q | ⟨ob, ys, q⟩
    · rw [q] at h
      cases h
    · rw [q] at h
      cases h
  · exact .inl h
  · exact .inr (.inr h)
/-- the drawing's state: a list of the script, a place, two numbers -/
def DrawAt (K : PySem.W.Frag) (H : Hp) (s : Addr) : Prop := ∃ (a : Addr) (ns : List Int) (p x y : Int), H s = some (.lst [.ref a, .int p, .int x, .int y]) ∧ SqF K H a (ns.map V.int) ∧ ns.length ≤ 63 ∧ 0 ≤ p
theorem DrawAt.lst {K : PySem.W.Frag} {H : Hp} {s : Addr} (h : DrawAt K H s) : ∃ xs, H s = some (.lst xs) := let ⟨_, _, _, _, _, e, _⟩ := h; ⟨_, e⟩
theorem DrawAt.same {K : PySem.W.Frag} {H H' : Hp} {s : Addr} (h : DrawAt K H s) (k : Same H H') : DrawAt K H' s :=
  let ⟨a, ns, p, x, y, e, q, l, z⟩ := h
  ⟨a, ns, p, x, y, k _ _ e, q.keep fun b o u e => k b _ e, l, z⟩
/-- .. a list changed elsewhere -/
theorem DrawAt.but {K : PySem.W.Frag} {H H' : Hp} {s l : Addr} (h : DrawAt K H s) (k : But l H H') (hl : ∃ xs, H l = some (.lst xs)) (n : s ≠ l) : DrawAt K H' s :=
  let ⟨a, ns, p, x, y, e, q, z⟩ := h
  ⟨a, ns, p, x, y, k _ _ n e, q.keep fun b o u e => k b _ (let ⟨_, e2⟩ := hl; ne_of e e2 (fun q => nomatch q)) e, z⟩
theorem Steps.but {H H' : Hp} {s : Addr} {vs : List V} {ss : List Stp} (h : Steps H vs ss) (k : But s H H') (hs : ∃ xs, H s = some (.lst xs)) : Steps H' vs ss :=
  h.mono fun t xs e => k t _ (let ⟨_, e2⟩ := hs; ne_of e e2 (fun q => nomatch q)) e
theorem PlanAt.but {C : Addr} {H H' : Hp} {p s : Addr} {ss : List Stp} (h : PlanAt C H p ss) (k : But s H H') (hs : ∃ xs, H s = some (.lst xs)) : PlanAt C H' p ss := by
  obtain ⟨dx, tp, ws, a, b, d⟩ := h
  obtain ⟨ys, e2⟩ := id hs
  obtain ⟨o, d0, b'⟩ := b
  exact ⟨dx, tp, ws, k _ _ (ne_of a e2 (fun q => nomatch q)) a, ⟨o, d0, k _ _ (ne_of b' e2 (fun q => nomatch q)) b'⟩, d.but k hs⟩
theorem TupP.but {s : Addr} {H H' : Hp} {tp : Addr} {ws : List V} (h : TupP H tp ws) (k : But s H H') (n : tp ≠ s) : TupP H' tp ws :=
  let ⟨o, d, e⟩ := h
  ⟨o, d, k _ _ n e⟩
theorem same_upd {H : Hp} {p : Addr} {o : HO} (h : H p = none) : Same H (upd H p o) := fun b u e => by
  rw [upd_ne (ne_of_none e h)]
  exact e
theorem but_upd {H : Hp} {p : Addr} {o : HO} : But p H (upd H p o) := fun b u n e => by
  rw [upd_ne n]
  exact e
theorem lk_self {f : Str} {v : V} : List.lookup f [(f, v)] = some v := by simp [List.lookup]
theorem lk_no {f g : Str} {v : V} (h : ¬ (f == g) = true) : List.lookup f [(g, v)] = none := by
  have e : (f == g) = false := by simpa using h
  simp [List.lookup, e]
theorem room_eq (b : Bool) : decide (V.str (roomS b) = V.str "red") = b := by
  cases b <;> decide +kernel
theorem eqv_turn : PyData.eqv (.tuple [.str "turn"]) (.tuple [.str "turn"]) = true := by decide +kernel
theorem eqv_meet (b : Bool) (n : Int) : PyData.eqv (.tuple [.str (roomS b), .int n]) (.tuple [.str "turn"]) = false := by
  cases b <;> simp [PyData.eqv, PyData.eqvAll, roomS]
theorem shaped_meet (b : Bool) (n : Int) : SeqAt.shaped (.tuple [.str (roomS b), .int n]) = true := by
  have h1 : PyData.strOk (roomS b) = true := by cases b <;> decide +kernel
  simp [SeqAt.shaped, PyData.canLay0, PyData.canLayAll0, PyData.depth, PyData.depthAll, h1]
end Cc

namespace Cc
open PySem PySem.Spec PyProof.Rows L2
/-! ### the text by places -/
def top (i : Nat) : Stmt := PySem.Challenge.pw_chaircarry_k48_whole_codes_of_plans.main.body.getD i (.Pass ⟨0, 0, 0, 0⟩)
abbrev sIsNum : Stmt := top 14
abbrev sIsWhole : Stmt := top 13
abbrev sIsStep : Stmt := top 17
abbrev sInit : Stmt := inClass (top 18) 2
abbrev sSteps : Stmt := inClass (top 18) 4
abbrev sJoined : Stmt := inClass (top 18) 6
/-! ### promises -/
def spIsWhole : Sp := fun vs H Q _ => ∃ v : Int, vs = [.int v] ∧ Q (.bl true) H
def spIsNum : Sp := fun vs H Q _ => ∃ (v a b : Int), vs = [.int v, .int a, .int b] ∧ Q (.bl (decide (a ≤ v ∧ v ≤ b))) H
def spChkNum : Sp := fun vs H Q _ => ∃ (v a b : Int), vs = [.int v, .int a, .int b] ∧ a ≤ v ∧ v ≤ b ∧ Q .non H
def spChkHouse (C : Addr) : Sp := fun vs H Q _ => ∃ (p : Addr) (c : Int) (ss : List Stp), vs = [.ref p, .int c] ∧ PlanAt C H p ss ∧ 0 ≤ c ∧ c ≤ 1000000000000000000 ∧ (∀ s ∈ ss, s.ok c) ∧ ss.length ≤ 60 ∧ ∀ H', Same H H' → Q .non H'
def spIsStep : Sp := fun vs H Q _ => ∃ (v : V) (s : Stp), vs = [v] ∧ StepAt H v s ∧ s.ok 1000000000000000000 ∧ ∀ H', Same H H' → Q (.bl true) H'
def spInitS (C : Addr) : Sp := fun vs H Q _ => ∃ (x tp dx : Addr) (ws : List V) (ss : List Stp), vs = [.ref x, .ref tp] ∧ H x = some (.ins C dx []) ∧ TupP H tp ws ∧ Steps H ws ss ∧ ss.length ≤ 60 ∧ (∀ s ∈ ss, s.ok 1000000000000000000) ∧
  ∀ H', But x H H' → H' x = some (.ins C dx [("step_tuple", .ref tp)]) → Q .non H'
/-- Plan.__init__ by positional values -/
def spInit (C : Addr) : Sp := fun vs H Q _ => ∃ (x dx : Addr) (ws : List V) (ss : List Stp), vs = .ref x :: ws ∧ H x = some (.ins C dx []) ∧ Steps H ws ss ∧ ss.length ≤ 60 ∧ (∀ s ∈ ss, s.ok 1000000000000000000) ∧
  ∀ H' tp, But x H H' → H' x = some (.ins C dx [("step_tuple", .ref tp)]) → TupP H' tp ws → Q .non H'
def spJoinedS (C : Addr) : Sp := fun vs H Q _ => ∃ (x tp : Addr) (ss : List Stp) (o : Addr) (us : List Stp), vs = [.ref x, .ref tp] ∧ PlanAt C H x ss ∧ H tp = some (.tup [.ref o]) ∧ PlanAt C H o us ∧ (ss ++ us).length ≤ 60 ∧ (∀ s ∈ ss ++ us, s.ok 1000000000000000000) ∧
  ∀ p H', Same H H' → PlanAt C H' p (ss ++ us) → Q (.ref p) H'
def spJoined (C : Addr) : Sp := fun vs H Q _ => ∃ (x : Addr) (ss : List Stp) (o : Addr) (us : List Stp), vs = [.ref x, .ref o] ∧ PlanAt C H x ss ∧ PlanAt C H o us ∧ (ss ++ us).length ≤ 60 ∧ (∀ s ∈ ss ++ us, s.ok 1000000000000000000) ∧
  ∀ p H', Same H H' → PlanAt C H' p (ss ++ us) → Q (.ref p) H'
/-- a def that calls none of the program's: it wants no room of its own -/
theorem fn_low {P : Program} {w : World} {K : PySem.W.Frag} {mg : Str → Option Value} {base : Heap} {x qual : Str} {st : Stmt} {f : Addr} {fd : FuncData} {N ps : List Str} {sp : Sp} (F : Fun K x qual st f fd) (S : FnScope N ps (defScope st)) (len : ∀ vs H Q E, sp vs H Q E → vs.length = ps.length)
    (hb : ∀ (cdv : Value) (A : Around) (outer : List Env) (s : Shared) (H : Hp) (vs : List V) (Q : VK) (E : XK), sp vs H Q E → ∃ t, PSs (cxOf CX0 P w K mg base N qual (defScope st) f cdv A outer s H E).nox (defBody st) t ∧ t { nx := fun _ H' => Q .non H', rt := Q } (start N vs) H) : FnOk P w K mg base CX0 0 f fd ps sp := by
  obtain ⟨oc, od, kV, dc, pm, an, cdv, ct, osl, rfl, lk, hcd⟩ := F.ex
  refine ⟨len, fun A outer s H args us vs Q E hr e0 hbd r hsp => ?_⟩
  have hl := len _ _ _ _ hsp
  have KX : K.In s.heap := e0.mod.kin.keeps (fun b o e => (e0.bs b o e).1)
  have lim := e0.mod.nolimit.keeps (fun b o e => (e0.bs b o e).1)
  have hk : ∀ y ∈ ps.zip us, (defScope st).names.lookup y.1 = some .local ∨ ((defScope st).names.lookup y.1 = some .cell ∧ ((cellsFrom (s.heap.objs.size + 1) (defScope st).names []).lookup y.1).isSome = true) := by
    rintro ⟨n, v⟩ hy
    exact (S.par n (List.of_mem_zip hy).1).imp id fun q => ⟨q, PySem.W.cellsFrom_some _ _ _ (.inl q)⟩
  refine codeAny_call_function hr.depth (KX _ _ lk) rfl S.co S.gen rfl (PySem.W.codeRec_of KX hcd) (hbd _ _ _ _ (wpAny_newFunctionEnv_cells S.kind hk fun env he s1 x => ?_))
  subst he
  obtain ⟨t, ht, hq⟩ := hb cdv A outer s H vs Q E hsp
  refine ⟨lim.keeps (x.toInCall.keep), codeAny_func ?_⟩
  have I : Inv (cxOf CX0 P w K mg base N qual (defScope st) f cdv A outer s H E) [] (start N vs) H s1 := inv_start S hr.hd e0 hl r x
  refine wpAny_mono (ht.nox.run [] s1 (start N vs) H _ I hq) (fun fl s' hs => ?_) fun e s' hs => hs
  match fl, hs with
  | .ret u, ⟨v, σ', H', J, rv, q⟩ => exact ⟨v, H', J.os, J.bare, J.base, J.hok, rv, q⟩
  | .next, ⟨σ', H', J, q⟩ => exact ⟨.non, H', J.os, J.bare, J.base, J.hok, rfl, q⟩
  | .brk, ⟨_, _, _, q⟩ => exact q.elim
  | .cont, ⟨_, _, _, q⟩ => exact q.elim
/-! ### what the top has written -/
structure Bt (mg : Str → Option Value) : Prop where
  isinstance : mg "isinstance" = none
  int : mg "int" = none
  bool : mg "bool" = none
  tuple : mg "tuple" = none
  list : mg "list" = none
  len : mg "len" = none
  max : mg "max" = none
  min : mg "min" = none
  abs : mg "abs" = none
  enumerate : mg "enumerate" = none
  range : mg "range" = none
  sum : mg "sum" = none
  sorted : mg "sorted" = none
  divmod : mg "divmod" = none
  zip : mg "zip" = none
  str : mg "str" = none
  dict : mg "dict" = none
  verr : mg "ValueError" = none
  any : mg "any" = none
structure Txt (K : PySem.W.Frag) (mg : Str → Option Value) (C TU pS gS : Addr) (mc : Value) : Prop where
  b : Bt mg
  cl : Cls K C
  nS : NoAttr K C "step_tuple"
  gP : mg "Plan" = some (.ref C)
  rd : ClX.CRead K C mc
  cs : ∃ u, ClX.CVal K C mc "MAX_STEPS" (.int 60) u
  cc : ∃ u, ClX.CVal K C mc "MAX_CHAIRS" (.int 1000000000000000000) u
  con : ∃ u, Con K C "MAX_CHAIRS" (.int 1000000000000000000) u
  gT : mg "TURN" = some (.ref TU)
  tT : ∀ H, SqT K H TU [.str "turn"]
  pr : PropOf K C "steps" pS gS
section
variable {P : Program} {w : World} {K : PySem.W.Frag} {mg : Str → Option Value} {base : Heap} {C TU pS gS : Addr} {mc : Value}
/-! ### checks -/
theorem scIsWhole : FnScope ["value"] ["value"] (defScope sIsWhole) := ⟨rfl, rfl, rfl, by decide +kernel, rfl, by decide +kernel, by decide +kernel⟩
theorem ok_iswhole {f : Addr} {fd : FuncData} (F : Fun K "is_whole" "is_whole" sIsWhole f fd) (B : Bt mg) : FnOk P w K mg base CX0 0 f fd ["value"] spIsWhole := by
  refine fn_low F scIsWhole (fun vs H Q E h => ?_) (fun cdv A outer s H vs Q E h => ?_)
  · obtain ⟨v, rfl, _⟩ := h
    rfl
  · obtain ⟨v, rfl, k⟩ := h
    refine ⟨_, pss_one (ps_ret (pe_and (pe_callB call_isi (by rfl) B.isinstance (by decide +kernel) (pa_cons (pv 0) (pa_cons (pe_bltn (v := .ty "int") (by rfl) B.int (by decide +kernel) rfl) pa_nil)))
      (pe_one (pe_not (pe_callB call_isi (by rfl) B.isinstance (by decide +kernel) (pa_cons (pv 0) (pa_cons (pe_bltn (v := .ty "bool") (by rfl) B.bool (by decide +kernel) rfl) pa_nil))))))), ?_⟩
    refine ⟨_, rfl, _, _, _, _, true, rfl, .ty "int", .base (.int v), kit_ty (by decide +kernel), true, rfl, ?_⟩
    exact iteT ⟨_, rfl, _, _, _, _, false, rfl, .ty "bool", .base (.int v), kit_ty (by decide +kernel), false, rfl, k⟩
theorem scIsNum : FnScope ["value", "least", "most"] ["value", "least", "most"] (defScope sIsNum) := ⟨rfl, rfl, rfl, by decide +kernel, rfl, by decide +kernel, by decide +kernel⟩
theorem ok_isnum {f fW : Addr} {fd : FuncData} (F : Fun K "is_number" "is_number" sIsNum f fd) (W : Dn P w K mg base 0 "is_whole" fW spIsWhole) : FnOk P w K mg base CX0 1 f fd ["value", "least", "most"] spIsNum := by
  refine F.ok scIsNum (fun vs H Q E h => ?_) (fun cdv A outer s H vs Q E hr h => ?_)
  · obtain ⟨v, a, b, rfl, _⟩ := h
    rfl
  · obtain ⟨v, a, b, rfl, k⟩ := h
    refine ⟨_, pss_one (ps_ret (pe_and (pe_callR W.ok hr rfl W.at_ W.kp pass0 (pa_cons (pv 0) pa_nil))
      (pe_one (pe_chain op_le op_le (pv 1) (pv 0) (pv 2))))), ?_⟩
    refine ⟨_, rfl, v, rfl, true, rfl, ?_⟩
    refine iteT ⟨_, rfl, _, rfl, _, _, rfl, rfl, _, rfl, ?_⟩
    by_cases c : a ≤ v
    · rw [decide_eq_true c]
      refine iteT ⟨_, rfl, _, _, rfl, rfl, ?_⟩
      have e : decide (v ≤ b) = decide (a ≤ v ∧ v ≤ b) := by simp [c]
      show Q (V.bl (decide (v ≤ b))) H
      rw [e]
      exact k
    · rw [if_neg (by simp [c])]
      have e : (false : Bool) = decide (a ≤ v ∧ v ≤ b) := by simp [c]
      show Q (V.bl false) H
      rw [e]
      exact k
theorem scSteps : FnScope ["self"] ["self"] (defScope sSteps) := ⟨rfl, rfl, rfl, by decide +kernel, rfl, by decide +kernel, by decide +kernel⟩
theorem ok_steps {f : Addr} {fd : FuncData} (F : Fun K "steps" "Plan.steps" sSteps f fd) (T : Txt K mg C TU pS gS mc) : FnOk P w K mg base CX0 1 f fd ["self"] (getSp C "step_tuple") := by
  refine F.ok scSteps (fun vs H Q E h => ?_) (fun cdv A outer s H vs Q E hr h => ?_)
  · obtain ⟨a, dx, fs, v, rfl, _⟩ := h
    rfl
  · obtain ⟨a, dx, fs, v, rfl, h1, h2, k⟩ := h
    exact ⟨_, pss_one (ps_ret (pe_fld (pv 0) rfl)), _, rfl, a, C, dx, fs, v, rfl, h1, T.cl, T.nS, h2, k⟩
/-- e.steps, e a plan -/
structure Gs (P : Program) (w : World) (K : PySem.W.Frag) (mg : Str → Option Value) (base : Heap) (C gS : Addr) (fd : FuncData) : Prop where
  ok : FnOk P w K mg base CX0 1 gS fd ["self"] (getSp C "step_tuple")
  b : Binds K fd ["self"] []
theorem scIsStep : FnScope ["step"] ["step"] (defScope sIsStep) := ⟨rfl, rfl, rfl, by decide +kernel, rfl, by decide +kernel, by decide +kernel⟩
theorem ok_isstep {f fN : Addr} {fd : FuncData} (F : Fun K "is_step" "is_step" sIsStep f fd) (T : Txt K mg C TU pS gS mc) (N : Dn P w K mg base 1 "is_number" fN spIsNum) : FnOk P w K mg base CX0 2 f fd ["step"] spIsStep := by
  refine F.ok scIsStep (fun vs H Q E h => ?_) (fun cdv A outer s H vs Q E hr h => ?_)
  · obtain ⟨v, s, rfl, _⟩ := h
    rfl
  · obtain ⟨v, st, rfl, ⟨t, rfl, ht⟩, ok, k⟩ := h
    obtain ⟨u, hu⟩ := T.cc
    refine ⟨_, pss_cons (ps_if (pt_not (pt_val (pe_callB call_isi (by rfl) T.b.isinstance (by decide +kernel) (pa_cons (pv 0) (pa_cons (pe_bltn (v := .ty "tuple") (by rfl) T.b.tuple (by decide +kernel) rfl) pa_nil))))) (pss_one (ps_ret pe_bl)) pss_nil)
      (pss_cons (ps_if (pt_cmpR op_eq (pe_callB call_len (by rfl) T.b.len PySem.boot_len (pa_cons (pv 0) pa_nil)) pe_int (nomark _))
        (pss_one (ps_ret (pe_and (pe_cmpR op_in_seq (pe_ix ix_tup (pv 0) pe_int (fun _ _ => rfl)) (pe_tup (pa_cons pe_str (pa_cons pe_str pa_nil))) (by rfl))
          (pe_one (pe_callR N.ok hr rfl N.at_ N.kp pass0 (pa_cons (pe_ix ix_tup (pv 0) pe_int (fun _ _ => rfl)) (pa_cons pe_int (pa_cons (ClX.pe_cval (pe_glob (v := .ref C) rfl T.gP rfl)) pa_nil)))))))) pss_nil)
      (pss_one (ps_ret (pe_cmpR (op_eqD hr.units) (pv 0) (pe_glob (v := .ref TU) rfl T.gT rfl) (nomark _))))), ?_⟩
    refine ⟨_, rfl, _, _, _, _, true, rfl, .ty "tuple", .base (.tup ht), kit_ty (by decide +kernel), true, rfl, ?_⟩
    refine iteF ?_
    refine ⟨_, rfl, _, _, rfl, .inr ⟨_, SqT.of ht, rfl⟩, rfl, ?_⟩
    cases st with
    | turn =>
      refine ⟨_, rfl, iteF ?_⟩
      refine ⟨_, rfl, .tuple [.str "turn"], .tuple [.str "turn"], .tup (SqT.of ht) (.cons (.str _) .nil), .tup (T.tT _) (.cons (.str _) .nil), by decide +kernel, by decide +kernel, ?_⟩
      have e : PyData.eqv (.tuple [.str "turn"]) (.tuple [.str "turn"]) = true := by decide +kernel
      rw [e]
      exact k H (Same.refl H)
    | meet bb n =>
      refine ⟨_, rfl, iteT ?_⟩
      refine ⟨_, rfl, t, _, _, _, rfl, rfl, SqT.of ht, at_of (j := 0) rfl rfl, by show 2 ≤ sizeLine; decide, fun p hp => ?_⟩
      have s1 : Same H (upd H p (.tup [.str "red", .str "blue"])) := same_upd hp
      refine ⟨p, _, rfl, .inr (SqT.of upd_same), rfl, by decide, _, rfl, ?_⟩
      have e : inV (.str (roomS bb)) [.str "red", .str "blue"] = true := by cases bb <;> decide +kernel
      rw [e]
      refine iteT ⟨_, rfl, t, _, _, _, rfl, rfl, SqT.of (s1 _ _ ht), at_of (j := 1) rfl rfl, C, mc, _, u, rfl, T.rd, hu, n, 0, _, rfl, ?_⟩
      rw [decide_eq_true (show (0 : Int) ≤ n ∧ n ≤ 1000000000000000000 from ok)]
      exact k _ s1
theorem scInit : FnScope ["self", "steps", "index", "step"] ["self", "steps"] (defScope sInit) := ⟨rfl, rfl, rfl, by decide +kernel, rfl, by decide +kernel, by decide +kernel⟩
theorem ok_init {f fS : Addr} {fd : FuncData} (F : Fun K "__init__" "Plan.__init__" sInit f fd) (T : Txt K mg C TU pS gS mc) (N : Dn P w K mg base 2 "is_step" fS spIsStep) : FnR P w K mg base CX0 3 f (spInit C) := by
  obtain ⟨z1, z2, z3, z4, z5, z6, cdv, z7, z8, rfl, lk, hcd⟩ := F.ex
  refine (fn_starZ (ps := ["self"]) (pv := "steps") (sp := spInitS C) (k := 2) lk hcd scInit StX.cxUp_none (StX.bind_star1 (B := fun us => bindArgs _ ⟨us, []⟩) (fun _ => rfl) (fun _ _ _ => rfl)) fun A outer s H vs Q E hr h => ?_).imp fun vs H Q E h => ?_
  · obtain ⟨x, tp, dx, ws, ss, rfl, e1, e2, e3, hl, hs, k⟩ := h
    obtain ⟨u, hu⟩ := T.cs
    suffices h : ∃ t, PSs (cxOf CX0 P w K mg base ["self", "steps", "index", "step"] "Plan.__init__" (defScope sInit) f cdv A outer s H E).nox (defBody sInit) t ∧ t { nx := fun _ H' => Q .non H', rt := Q } (start ["self", "steps", "index", "step"] [.ref x, .ref tp]) H by
      obtain ⟨t, h1, h2⟩ := h
      exact ⟨t, h1.nox, h2⟩
    refine ⟨_, pss_cons (ps_for PassesOwn.never rfl (pi_enumT (by rfl) T.b.enumerate (pa_cons (pv 1) pa_nil))
        (pg_tup rfl (pgs_cons (pg_name (i := 2) scInit.nd rfl (.inl rfl)) (pgs_cons (pg_name (i := 3) scInit.nd rfl (.inl rfl)) pgs_nil)))
        (pss_one (ps_if (PW.pt (pw_or (pt_cmpR op_eq (pv 2) (ClX.pe_cval (pe_glob (v := .ref C) rfl T.gP rfl)) (nomark _))
          (pw_or1 (pt_not (pt_val (pe_callR N.ok hr rfl N.at_ N.kp pass0 (pa_cons (pv 3) pa_nil))))))) (pss_one ps_never) pss_nil)))
      (pss_one (ps_fld (pv 0) (pv 1) rfl)), ?_⟩
    refine ⟨_, rfl, tp, ws, rfl, e2.sq, ?_⟩
    refine for_it (walk_enumT (xs := ws)) (fun i σ H' => ∃ a b, σ = [some (.ref x), some (.ref tp), a, b] ∧ Same H H') ⟨none, none, rfl, Same.refl H⟩ (fun i σ H' _ ⟨_, _, _, s1⟩ => (e2.same s1).sq) ?_ ?_
    · rintro i v σ H1 H2 hi ⟨a, b, rfl, s1⟩ ⟨q, y1, y2, rfl, n1, rfl, z1, z2⟩
      obtain ⟨st, hst, t, rfl, ht⟩ := e3.get z2
      have okst := hs st (List.mem_of_getElem? hst)
      have s2 : Same H (upd H1 q (.tup [y1, .ref t])) := s1.trans (same_upd n1)
      have ht2 := s2 _ _ ht
      cases z1
      refine ⟨q, _, rfl, SqT.of upd_same, rfl, _, _, rfl, _, _, rfl, rfl, ?_⟩
      have hi' : i < 60 := by rw [e3.length] at hi; omega
      refine ⟨_, rfl, C, mc, _, u, rfl, T.rd, hu, rfl, _, rfl, ?_⟩
      rw [decide_eq_false (show ¬ V.int (i : Int) = V.int 60 from fun z => by injection z with z; omega)]
      refine iteF ?_
      refine ⟨_, rfl, _, st, rfl, ⟨t, rfl, ht2⟩, okst, fun H3 s3 => ⟨_, rfl, ?_⟩⟩
      exact iteF ⟨_, _, rfl, s2.trans s3⟩
    · rintro σ H' ⟨a, b, rfl, s1⟩
      refine ⟨_, rfl, _, rfl, x, C, dx, _, rfl, s1 _ _ e1, T.cl, T.nS, (by show 0 < 1000; decide), ?_⟩
      exact k _ (fun b o n e => by rw [upd_ne n]; exact s1 _ _ e) upd_same
  · obtain ⟨x, dx, ws, ss, rfl, e1, e3, hl, hs, k⟩ := h
    refine ⟨[.ref x], ws, rfl, rfl, ?_, fun p ob hp hd => ?_⟩
    · rw [e3.length]
      exact Nat.le_trans hl (by decide)
    · have s1 : Same H (upd H p (.frz ob (.tup ws))) := same_upd hp
      refine ⟨x, p, dx, ws, ss, rfl, s1 _ _ e1, ⟨ob, hd, upd_same⟩, e3.same s1, hl, hs, fun H' b1 b2 => ?_⟩
      exact k H' p (fun b o n e => b1 b o n (s1 _ _ e)) b2 ⟨ob, hd, b1 _ _ (ne_of_none e1 hp).symm upd_same⟩
theorem scJoined : FnScope ["self", "others", "steps", "other"] ["self", "others"] (defScope sJoined) := ⟨rfl, rfl, rfl, by decide +kernel, rfl, by decide +kernel, by decide +kernel⟩
theorem ok_joined {f fI : Addr} {fd fdS : FuncData} (F : Fun K "joined" "Plan.joined" sJoined f fd) (T : Txt K mg C TU pS gS mc) (G : Gs P w K mg base C gS fdS) (M : Mk K C fI) (GI : FnR P w K mg base CX0 3 fI (spInit C)) : FnR P w K mg base CX0 5 f (spJoined C) := by
  obtain ⟨z1, z2, z3, z4, z5, z6, cdv, z7, z8, rfl, lk, hcd⟩ := F.ex
  refine (StX.fn_star (ps := ["self"]) (pv := "others") (sp := spJoinedS C) (k := 4) lk hcd scJoined StX.cxUp_none (StX.bind_star1 (B := fun us => bindArgs _ ⟨us, []⟩) (fun _ => rfl) (fun _ _ _ => rfl)) fun A outer s H vs Q E hr h => ?_).imp fun vs H Q E h => ?_
  · obtain ⟨x, tp, ss, o, us, rfl, p1, e2, p2, hl, hs, k⟩ := h
    obtain ⟨dx, t1, ws, e1, e3, e4⟩ := id p1
    obtain ⟨dy, t2, zs, f1, f3, f4⟩ := id p2
    suffices h : ∃ t, PSs (cxOf CX0 P w K mg base ["self", "others", "steps", "other"] "Plan.joined" (defScope sJoined) f cdv A outer s H E).nox (defBody sJoined) t ∧ t { nx := fun _ H' => Q .non H', rt := Q } (start ["self", "others", "steps", "other"] [.ref x, .ref tp]) H by
      obtain ⟨t, h1, h2⟩ := h
      exact ⟨t, h1.nox, h2⟩
    have hr1 : Room 2 _ := hr.mono (by decide)
    refine ⟨_, pss_cons (ps_set (i := 2) scJoined.nd rfl (.inl rfl) (pe_callTy call_list_of (by rfl) T.b.list (by decide +kernel) (pa_cons (pe_prop (pv 0) T.cl T.pr G.ok hr1 G.b .nil pass0 rfl) pa_nil)))
      (pss_cons (ps_for PassesOwn.never rfl (pi_tup (pv 1)) (pg_name (i := 3) scJoined.nd rfl (.inl rfl))
        (pss_one (ps_expr (pe_bm PySem.F.plainAttrs_list PySem.F.slot_list_extend PySem.F.type_list_extend mt_extendT (pv 2) (pa_cons (pe_prop (pv 3) T.cl T.pr G.ok hr1 G.b .nil pass0 rfl) pa_nil)))))
      (pss_one (ps_ret (pe_makeS M GI hr rfl T.gP pass0 (pv 2))))), ?_⟩
    refine ⟨_, rfl, x, dx, _, rfl, e1, x, dx, _, _, rfl, e1, lk_self, t1, ws, rfl, .inr e3.sq, fun l hl0 => ?_⟩
    have s1 : Same H (upd H l (.lst ws)) := same_upd hl0
    have hlen : ws.length + zs.length ≤ 60 := by
      rw [e4.length, f4.length]
      rw [List.length_append] at hl
      exact hl
    refine ⟨_, rfl, tp, rfl, ⟨_, SqT.of (s1 _ _ e2)⟩, for_tup (K := K) (a := tp) (xs := [V.ref o]) (fun i σ H' => ∃ v, σ = [some (.ref x), some (.ref tp), some (.ref l), v] ∧ But l H H' ∧ H' l = some (.lst (if i = 0 then ws else ws ++ zs)))
      ⟨none, rfl, But.of s1, upd_same⟩ (fun i σ H' _ ⟨_, _, b1, _⟩ => SqT.of (b1 _ _ (ne_of_none e2 hl0) e2)) ?_ ?_⟩
    · rintro i y σ H' hi ⟨v, rfl, b1, b2⟩
      match i, hi with
      | 0, hi =>
        cases hi
        have g1 := b1 _ _ (ne_of_none f1 hl0) f1
        have g3 := f3.but b1 (f3.ne hl0)
        rw [if_pos rfl] at b2
        refine ⟨_, rfl, .inl ⟨rfl, _, SqL.of b2⟩, _, rfl, o, dy, _, rfl, g1, o, dy, _, _, rfl, g1, lk_self, l, t2, ws, zs, rfl, rfl, b2, g3.sq, Nat.le_trans hlen (by decide), ?_⟩
        refine ⟨_, rfl, fun b o n e => ?_, ?_⟩
        · rw [upd_ne n]
          exact b1 b o n e
        · rw [if_neg (by decide)]
          exact upd_same
      | i + 1, hi => simp at hi
    · rintro σ H' ⟨v, rfl, b1, b2⟩
      rw [if_neg (by show ¬ (1 = 0); decide)] at b2
      refine ⟨_, rfl, l, _, rfl, .inr (SqL.of b2), fun q dq hq hdq hne => ?_⟩
      have s2 : Same H' (upd (upd H' dq (.own q)) q (.ins C dq [])) := fun b o e => by
        rw [upd_ne (ne_of_none e hq), upd_ne (ne_of_none e hdq)]
        exact e
      have stp : Steps H' (ws ++ zs) (ss ++ us) := by
        refine (e4.append f4).mono fun t xs e => b1 _ _ (ne_of_none e hl0) e
      refine ⟨q, dq, _, ss ++ us, rfl, upd_same, stp.same s2, hl, hs, fun H2 tq b3 b4 b5 => ⟨rfl, ?_⟩⟩
      have s3 : Same H H2 := fun b o e => b3 _ _ (ne_of_none (b1 _ _ (ne_of_none e hl0) e) hq) (s2 _ _ (b1 _ _ (ne_of_none e hl0) e))
      refine k q H2 s3 ⟨dq, tq, _, b4, b5, ?_⟩
      exact stp.mono fun t xs e => b3 _ _ (ne_of_none e hq) (s2 _ _ e)
  · obtain ⟨x, ss, o, us, rfl, p1, p2, hl, hs, k⟩ := h
    refine ⟨[.ref x], [.ref o], rfl, rfl, by show 1 ≤ sizeLine; decide, fun p hp => ?_⟩
    have s1 : Same H (upd H p (.tup [.ref o])) := same_upd hp
    exact ⟨x, p, ss, o, us, rfl, p1.same s1, upd_same, p2.same s1, hl, hs, fun p' H' s2 => k p' H' (s1.trans s2)⟩
end
end Cc

/-! Nobody carries less: the least price of each place behind the steps. -/
namespace Cc
open PySem PySem.Spec PyProof.Rows L2
def ab (i : Int) : Int := if i < 0 then -i else i
/-- the prices of the places 0, 1, .. when T are carried and pos is the lazy place -/
def priceF (n : Nat) (T pos : Int) : List Int := (List.range n).map fun (g : Nat) => T + ab ((g : Int) - pos)
/-- the place (chairs in the room that was red at first), by the side -/
def placeF (c side r : Int) : Int := if side = 1 then r else c - r
/-- the places that a meeting allows -/
def goodF (c : Int) (first : Bool) (need : Int) (n : Nat) : List Nat := (List.range n).filter fun (g : Nat) => decide (need ≤ if first = true then (0 + (g : Int)) else c - (0 + (g : Int)))
theorem mem_goodF {c : Int} {first : Bool} {need : Int} {n g : Nat} : g ∈ goodF c first need n ↔ g < n ∧ need ≤ (if first = true then (g : Int) else c - g) := by
  unfold goodF
  rw [List.mem_filter, List.mem_range]
  simp
/-- a meeting moves the lazy place to the nearest that it allows -/
theorem place_meet {c side r n : Int} {b : Bool} (hs : side = 1 ∨ side = -1) (h0 : 0 ≤ r) (h1 : r ≤ c) (n0 : 0 ≤ n) (n1 : n ≤ c) (first : Bool) (hf : first = (b == decide (side = 1))) :
    placeF c side (stepF c (.meet b n) r).1 = (if first = true then (if placeF c side r < n then n else placeF c side r) else (if c - n < placeF c side r then c - n else placeF c side r)) ∧
    (stepF c (.meet b n) r).2 = ab (placeF c side (stepF c (.meet b n) r).1 - placeF c side r) := by
  subst hf
  rcases hs with rfl | rfl <;> cases b <;> simp [placeF, stepF, mx, ab] <;> omega
theorem place_in {c side r : Int} (h0 : 0 ≤ r) (h1 : r ≤ c) : 0 ≤ placeF c side r ∧ placeF c side r ≤ c := by
  unfold placeF
  split <;> omega
/-- the new price of a place -/
theorem price_meet {c side r n T : Int} {b : Bool} (hs : side = 1 ∨ side = -1) (h0 : 0 ≤ r) (h1 : r ≤ c) (n0 : 0 ≤ n) (n1 : n ≤ c) (first : Bool) (hf : first = (b == decide (side = 1))) (g : Int) :
    (∃ p : Nat, p ∈ goodF c first n (c + 1).toNat ∧ (T + ab ((p : Int) - placeF c side r)) + ab ((p : Int) - g) = (T + (stepF c (.meet b n) r).2) + ab (g - placeF c side (stepF c (.meet b n) r).1)) ∧
    ∀ p : Nat, p ∈ goodF c first n (c + 1).toNat → (T + (stepF c (.meet b n) r).2) + ab (g - placeF c side (stepF c (.meet b n) r).1) ≤ (T + ab ((p : Int) - placeF c side r)) + ab ((p : Int) - g) := by
  obtain ⟨e1, e2⟩ := place_meet hs h0 h1 n0 n1 first hf
  obtain ⟨p0, p1⟩ := place_in (side := side) h0 h1
  rw [e2]
  generalize placeF c side r = pos at *
  generalize placeF c side (stepF c (.meet b n) r).1 = pos' at *
  have hp0 : 0 ≤ pos' := by
    subst e1
    split <;> split <;> omega
  refine ⟨⟨pos'.toNat, mem_goodF.mpr ⟨?_, ?_⟩, ?_⟩, fun p hp => ?_⟩
  · subst e1
    split <;> split <;> omega
  · have q : ((pos'.toNat : Nat) : Int) = pos' := by omega
    rw [q]
    subst e1
    cases first <;> simp <;> split <;> omega
  · have q : ((pos'.toNat : Nat) : Int) = pos' := by omega
    rw [q]
    unfold ab
    split <;> split <;> split <;> omega
  · obtain ⟨hp1, hp2⟩ := mem_goodF.mp hp
    unfold ab
    cases first
    · simp at e1 hp2
      subst e1
      split <;> split <;> split <;> split <;> omega
    · simp at e1 hp2
      subst e1
      split <;> split <;> split <;> split <;> omega
theorem least_is {ns : List Int} {m v : Int} (h1 : m ∈ ns) (h2 : ∀ x ∈ ns, m ≤ x) (h3 : v ∈ ns) (h4 : ∀ x ∈ ns, v ≤ x) : m = v := Int.le_antisymm (h2 v h3) (h4 m h1)
theorem priceF_get {n : Nat} {T pos : Int} {p : Nat} (h : p < n) : (priceF n T pos)[p]? = some (T + ab ((p : Int) - pos)) := by
  unfold priceF
  rw [List.getElem?_map, List.getElem?_range h]
  rfl
end Cc
namespace Cc
open PySem PySem.Spec PyProof.Rows L2
theorem ifT {c : Bool} {A B : Prop} (hc : c = true) (h : A) : if c = true then A else B := by
  rw [if_pos hc]
  exact h
theorem ifF {c : Bool} {A B : Prop} (hc : c = false) (h : B) : if c = true then A else B := by
  rw [hc, if_neg Bool.false_ne_true]
  exact h
theorem same_new {H H' : Hp} {D : Addr} {o : HO} (h : H D = none) (s : Same H H') : Same H (upd H' D o) := fun b u e => by
  rw [upd_ne (ne_of_none e h)]
  exact s b u e
theorem upd_lst {H : Hp} {D : Addr} {xs ys : List V} (h : xs = ys) : upd H D (.lst xs) D = some (.lst ys) := by
  rw [h]
  exact upd_same
theorem priceF_succ (n : Nat) (T pos : Int) : (priceF (n + 1) T pos).map V.int = (priceF n T pos).map V.int ++ [V.int (T + ab ((n : Int) - pos))] := by
  unfold priceF
  rw [List.range_succ, List.map_append, List.map_append]
  rfl
theorem priceF_len (n : Nat) (T pos : Int) : (priceF n T pos).length = n := by
  simp [priceF]
def goodV (c : Int) (first : Bool) (need : Int) (n : Nat) : List V := (goodF c first need n).map fun (p : Nat) => V.int (0 + (p : Int))
theorem goodV_succ (c : Int) (first : Bool) (need : Int) (n : Nat) (h : (decide (need ≤ if first = true then (0 + (n : Int)) else c - (0 + (n : Int)))) = true) : goodV c first need (n + 1) = goodV c first need n ++ [V.int (0 + (n : Int))] := by
  unfold goodV goodF
  rw [List.range_succ, List.filter_append, List.map_append]
  simp only [List.filter_cons, h, if_true, List.filter_nil, List.map_cons, List.map_nil]
theorem goodV_skip (c : Int) (first : Bool) (need : Int) (n : Nat) (h : (decide (need ≤ if first = true then (0 + (n : Int)) else c - (0 + (n : Int)))) = false) : goodV c first need (n + 1) = goodV c first need n := by
  unfold goodV goodF
  rw [List.range_succ, List.filter_append, List.map_append]
  simp only [List.filter_cons, h, Bool.false_eq_true, if_false, List.filter_nil, List.map_nil, List.append_nil]
theorem goodV_len (c : Int) (first : Bool) (need : Int) (n : Nat) : (goodV c first need n).length ≤ n := by
  unfold goodV goodF
  rw [List.length_map]
  exact Nat.le_trans (List.length_filter_le _ _) (by rw [List.length_range]; exact Nat.le_refl n)
theorem room_turn (b : Bool) : decide (V.str (roomS b) = V.str "turn") = false := by
  cases b <;> decide +kernel
theorem first_eq (b : Bool) (side : Int) : decide (V.bl (decide (V.str (roomS b) = V.str "red")) = V.bl (decide (V.int side = V.int 1))) = (b == decide (side = 1)) := by
  rw [room_eq]
  have e : decide (V.int side = V.int 1) = decide (side = 1) := by
    by_cases h : side = 1
    · subst h; simp
    · rw [decide_eq_false h, decide_eq_false fun z => h (by injection z)]
  rw [e]
  cases b <;> cases decide (side = 1) <;> decide
theorem small_line {i n : Nat} (h : i < n) (hn : n ≤ 2000) : i < sizeLine := by
  rw [sizeLine_eq]
  omega
end Cc

/-! Drawing in the laws of the second part: the script mixed, the next number. -/
namespace Cc
open PySem PySem.Spec PyProof.Rows L2
/-- all but two lists are kept -/
def But2 (h l : Addr) (H H1 : Hp) : Prop := ∀ b o, b ≠ h → b ≠ l → H b = some o → H1 b = some o
theorem But2.refl (h l : Addr) (H : Hp) : But2 h l H H := fun _ _ _ _ e => e
theorem But2.trans {h l : Addr} {H H1 H2 : Hp} (a : But2 h l H H1) (b : But2 h l H1 H2) : But2 h l H H2 := fun c o n1 n2 e => b c o n1 n2 (a c o n1 n2 e)
theorem But2.of {h l : Addr} {H H1 : Hp} (s : Same H H1) : But2 h l H H1 := fun b o _ _ e => s b o e
/-- the law's state -/
def NextAt (H : Hp) (h l : Addr) : Prop := ∃ (m k : Int) (ns : List Int), H h = some (.lst [.int m, .ref l, .int k]) ∧ H l = some (.lst (ns.map V.int)) ∧ ns.length ≤ 63 ∧ h ≠ l
theorem NextAt.ne {H : Hp} {h l : Addr} (n : NextAt H h l) : h ≠ l := let ⟨_, _, _, _, _, _, e⟩ := n; e
theorem NextAt.h1 {H : Hp} {h l : Addr} (n : NextAt H h l) : ∃ xs, H h = some (.lst xs) := let ⟨_, _, _, e, _⟩ := n; ⟨_, e⟩
theorem NextAt.l1 {H : Hp} {h l : Addr} (n : NextAt H h l) : ∃ xs, H l = some (.lst xs) := let ⟨_, _, _, _, e, _⟩ := n; ⟨_, e⟩
theorem NextAt.same {H H1 : Hp} {h l : Addr} (n : NextAt H h l) (s : Same H H1) : NextAt H1 h l :=
  let ⟨m, k, ns, a, b, c, d⟩ := n
  ⟨m, k, ns, s _ _ a, s _ _ b, c, d⟩
theorem But2.none {h l : Addr} {H H1 : Hp} (b : But2 h l H H1) (n : NextAt H h l) {p : Addr} (hp : H1 p = Option.none) (n1 : NextAt H1 h l) : H p = Option.none := by
  cases e : H p with
  | none => rfl
  | some o =>
    have a1 : p ≠ h := fun z => by
      subst z
      obtain ⟨xs, w⟩ := n1.h1
      rw [hp] at w
      cases w
    have a2 : p ≠ l := fun z => by
      subst z
      obtain ⟨xs, w⟩ := n1.l1
      rw [hp] at w
      cases w
    rw [b _ _ a1 a2 e] at hp
    cases hp
theorem But2.tup {h l : Addr} {H H1 : Hp} (b : But2 h l H H1) (n : NextAt H h l) : ∀ t us, H t = some (.tup us) → H1 t = some (.tup us) := fun t us e => by
  obtain ⟨xs, e1⟩ := n.h1
  obtain ⟨ys, e2⟩ := n.l1
  exact b _ _ (ne_of e e1 fun z => nomatch z) (ne_of e e2 fun z => nomatch z) e
theorem But2.ins {h l : Addr} {H H1 : Hp} (b : But2 h l H H1) (n : NextAt H h l) {p C dx : Addr} {fs : List (Str × V)} (e : H p = some (.ins C dx fs)) : H1 p = some (.ins C dx fs) := by
  obtain ⟨xs, e1⟩ := n.h1
  obtain ⟨ys, e2⟩ := n.l1
  exact b _ _ (ne_of e e1 fun z => nomatch z) (ne_of e e2 fun z => nomatch z) e
theorem sn_none {H H1 : Hp} {p : Addr} (s : Same H H1) (h : H1 p = Option.none) : H p = Option.none := by
  cases e : H p with
  | none => rfl
  | some o =>
    rw [s _ _ e] at h
    cases h
def spMix (K : PySem.W.Frag) : Sp := fun vs H Q _ => ∃ (a : Addr) (ns : List Int) (sd : Int), vs = [.ref a, .int sd] ∧ SqF K H a (ns.map V.int) ∧ ns.length ≤ 63 ∧ ∀ h l H', H h = none → H l = none → Same H H' → NextAt H' h l → Q (.ref h) H'
def spNext : Sp := fun vs H Q _ => ∃ (h l : Addr) (n : Int), vs = [.ref h, .int n] ∧ NextAt H h l ∧ 0 < n ∧ n ≤ 9223372036854775807 ∧ ∀ r H', 0 ≤ r → r < n → NextAt H' h l → But2 h l H H' → Q (.int r) H'
section
variable {P : Program} {w : World} {K : PySem.W.Frag} {mg : Str → Option Value} {base : Heap} {C TU pS gS : Addr} {mc : Value}
abbrev s__law_mix : Stmt := top 30
abbrev n__law_mix : List Str := ["_law_script", "_law_seed", "_law_mixed", "_law_cell"]
theorem sc__law_mix : FnScope n__law_mix ["_law_script", "_law_seed"] (defScope s__law_mix) := ⟨rfl, rfl, rfl, by decide +kernel, rfl, by decide +kernel, by decide +kernel⟩
theorem ok__law_mix {f : Addr} {fd : FuncData} (F : Fun K "_law_mix" "_law_mix" s__law_mix f fd) (B : Bt mg) : FnOk P w K mg base CX0 1 f fd ["_law_script", "_law_seed"] (spMix K) := by
  refine F.ok sc__law_mix (fun vs H Q E h => ?_) (fun cdv A outer s H vs Q E hr h => ?_)
  · obtain ⟨a, ns, sd, rfl, _⟩ := h
    rfl
  · obtain ⟨a, ns, sd, rfl, hF, hlen, k⟩ := h
    refine ⟨_, pss_cons (ps_set (i := 2) sc__law_mix.nd rfl (.inl rfl) (pv 1))
      (pss_cons (ps_for PassesOwn.never rfl (pi_list (pv 0)) (pg_name (i := 3) sc__law_mix.nd rfl (.inl rfl))
        (pss_one (ps_set (i := 2) sc__law_mix.nd rfl (.inl rfl) (pe_op op_mod (pe_op op_add (pe_op op_add (pe_op op_mul (pv 2) pe_int) (pe_op op_mod (pv 3) pe_int)) pe_int) pe_int))))
      (pss_one (ps_ret (pe_lst (pa_cons (pv 2) (pa_cons (pe_callTy call_list_of (by rfl) B.list (by decide +kernel) (pa_cons (pv 0) pa_nil)) (pa_cons pe_int pa_nil))))))), ?_⟩
    refine ⟨_, rfl, _, rfl, a, rfl, ⟨_, hF.sq⟩, for_list (K := K) (a := a) (xs := ns.map V.int) (fun i σ H' => H' = H ∧ ∃ (m : Int) (v : Option V), σ = [some (.ref a), some (.int sd), some (.int m), v]) ⟨rfl, sd, none, rfl⟩ (fun i σ H' _ ⟨e, _⟩ => by subst e; exact hF.sq) ?_ ?_⟩
    · rintro i x σ H' hi ⟨rfl, m, v, rfl⟩
      rw [List.getElem?_map] at hi
      obtain ⟨z, hz, rfl⟩ : ∃ z, ns[i]? = some z ∧ x = V.int z := by
        cases e : ns[i]? with
        | none =>
          rw [e] at hi
          cases hi
        | some z =>
          rw [e] at hi
          exact ⟨z, rfl, (Option.some.inj hi).symm⟩
      exact ⟨_, rfl, _, _, rfl, rfl, .inr ⟨by decide, by decide⟩, _, rfl, _, _, rfl, rfl, (by show (0 : Int) < 2147483629; decide), _, _, rfl, rfl, _, _, rfl, rfl, _, _, rfl, rfl, (by show (0 : Int) < 2147483647; decide), rfl, _, _, rfl⟩
    · rintro σ H' ⟨rfl, m, v, rfl⟩
      refine ⟨_, rfl, _, rfl, a, _, rfl, .inl hF.sq, fun l hl => ⟨by show 3 ≤ sizeLine; decide, fun h hh => ?_⟩⟩
      have hne : h ≠ l := fun z => by
        rw [z, upd_same] at hh
        cases hh
      exact k h l _ (sn_none (same_upd hl) hh) hl ((same_upd hl).trans (same_upd hh)) ⟨m, 0, ns, upd_same, (same_upd hh) _ _ upd_same, hlen, hne⟩
abbrev s__law_next : Stmt := top 31
abbrev n__law_next : List Str := ["_law_h", "_law_limit", "_law_cell"]
theorem sc__law_next : FnScope n__law_next ["_law_h", "_law_limit"] (defScope s__law_next) := ⟨rfl, rfl, rfl, by decide +kernel, rfl, by decide +kernel, by decide +kernel⟩
theorem ok__law_next {f : Addr} {fd : FuncData} (F : Fun K "_law_next" "_law_next" s__law_next f fd) (B : Bt mg) : FnOk P w K mg base CX0 1 f fd ["_law_h", "_law_limit"] spNext := by
  refine F.ok sc__law_next (fun vs H Q E h => ?_) (fun cdv A outer s H vs Q E hr h => ?_)
  · obtain ⟨h, l, n, rfl, _⟩ := h
    rfl
  · obtain ⟨h, l, n, rfl, ⟨m, kk, ns, eh, el, hlen, hne⟩, n0, n1, k⟩ := h
    refine ⟨_, pss_cons (ps_set (i := 2) sc__law_next.nd rfl (.inl rfl) (pe_ix ix_list (pe_op op_cat (pe_ix ix_list (pv 0) pe_int (fun _ _ => rfl)) (pe_lst (pa_cons pe_int pa_nil))) (pe_op op_mod (pe_ix ix_list (pv 0) pe_int (fun _ _ => rfl)) (pe_callB (call_max2 rfl) (by rfl) B.max (by decide +kernel) (pa_cons pe_int (pa_cons (pe_callB call_len_seq (by rfl) B.len PySem.boot_len (pa_cons (pe_ix ix_list (pv 0) pe_int (fun _ _ => rfl)) pa_nil)) pa_nil)))) (fun _ _ => rfl)))
      (pss_cons (ps_if (pt_cmpR op_ge (pv 2) (pe_op op_pow pe_int pe_int) (nomark _))
        (pss_cons (ps_asg (pe_op op_fdivW (pv 2) (pv 1)) (pg_sub (pe_ix ix_list (pv 0) pe_int (fun _ _ => rfl)) (pe_op op_mod (pe_ix ix_list (pv 0) pe_int (fun _ _ => rfl)) (pe_callB call_len_seq (by rfl) B.len PySem.boot_len (pa_cons (pe_ix ix_list (pv 0) pe_int (fun _ _ => rfl)) pa_nil))) set_list))
        (pss_one (ps_ret (pe_op op_mod (pv 2) (pv 1))))) pss_nil)
      (pss_cons (ps_asg (pe_op op_mod (pe_op op_add (pe_op op_add (pe_op op_mul (pe_ix ix_list (pv 0) pe_int (fun _ _ => rfl)) pe_int) (pe_op op_mul (pv 2) pe_int)) pe_int) pe_int) (pg_sub (pv 0) pe_int set_list))
      (pss_cons (ps_asg (pe_op op_add (pe_ix ix_list (pv 0) pe_int (fun _ _ => rfl)) pe_int) (pg_sub (pv 0) pe_int set_list))
      (pss_one (ps_ret (pe_op op_mod (pe_op op_fdiv (pe_ix ix_list (pv 0) pe_int (fun _ _ => rfl)) pe_int) (pv 1))))))), ?_⟩
    have hw : ∀ i, CDivW i n := fun i => wide_div (b := 63) n0 (by omega) (by decide) (by decide)
    refine ⟨_, rfl, h, _, _, _, rfl, rfl, SqL.of eh, at_of (j := 1) rfl rfl, by show 1 ≤ sizeLine; decide, fun p1 hp1 => ?_⟩
    have s1 := same_upd (o := .lst [.int 0]) hp1
    have lm : (ns.map V.int).length = ns.length := List.length_map ..
    refine ⟨l, p1, _, _, rfl, rfl, s1 _ _ el, upd_same, by rw [lm, sizeLine_eq]; show ns.length + 1 ≤ _; omega, fun p2 hp2 => ?_⟩
    have s2 := s1.trans (same_upd (o := .lst (ns.map V.int ++ [.int 0])) hp2)
    have e2 : (upd (upd H p1 (.lst [.int 0])) p2 (.lst (ns.map V.int ++ [.int 0]))) p2 = some (.lst ((ns ++ [0]).map V.int)) := upd_lst (by rw [List.map_append]; rfl)
    generalize upd (upd H p1 (.lst [.int 0])) p2 (.lst (ns.map V.int ++ [.int 0])) = H2 at *
    have eh2 := s2 _ _ eh
    have el2 := s2 _ _ el
    refine ⟨_, rfl, h, _, _, _, rfl, rfl, SqL.of eh2, at_of (j := 2) rfl rfl, _, rfl, h, _, _, _, rfl, rfl, SqL.of eh2, at_of (j := 1) rfl rfl, l, _, rfl, .inl (SqL.of el2), 1, _, rfl, ?_⟩
    rw [lm]
    have mpos : (0 : Int) < (if (ns.length : Int) > 1 then (ns.length : Int) else 1) := by split <;> omega
    refine ⟨_, _, rfl, rfl, mpos, ?_⟩
    obtain ⟨j, ej⟩ : ∃ j : Nat, kk % (if (ns.length : Int) > 1 then (ns.length : Int) else 1) = (j : Int) := ⟨(kk % (if (ns.length : Int) > 1 then (ns.length : Int) else 1)).toNat, by rw [Int.toNat_of_nonneg (Int.emod_nonneg _ (by omega))]⟩
    have hj : j < ns.length + 1 := by
      have z := Int.emod_lt_of_pos kk mpos
      rw [ej] at z
      split at z <;> omega
    obtain ⟨cell, hc⟩ : ∃ cell, (ns ++ [0])[j]? = some cell := ⟨_, List.getElem?_eq_getElem (by rw [List.length_append]; exact hj)⟩
    refine ⟨p2, _, _, _, rfl, rfl, SqL.of e2, at_of (j := j) (v := V.int cell) ej (by rw [List.getElem?_map, hc]; rfl), ?_⟩
    refine ⟨_, rfl, _, _, rfl, rfl, ⟨by decide, by decide, by decide⟩, _, _, rfl, rfl, _, rfl, ?_⟩
    have b02 : But2 h l H H2 := But2.of s2
    have fin : ∀ (r m' k' : Int) (ns' : List Int) (H' : Hp), 0 ≤ r → r < n → ns'.length = ns.length → H' h = some (.lst [.int m', .ref l, .int k']) → H' l = some (.lst (ns'.map V.int)) → But2 h l H2 H' → Q (.int r) H' := fun r m' k' ns' H' r0 r1 nl e1 e2 b =>
      k r H' r0 r1 ⟨m', k', ns', e1, e2, by omega, hne⟩ (b02.trans b)
    refine ite2 (fun c => ?_) (fun _ => ?_)
    · have c18 : (10 : Int) ^ (18 : Int).toNat ≤ cell := of_decide_eq_true c
      have hjn : j < ns.length := by
        rcases Nat.lt_or_ge j ns.length with z | z
        · exact z
        · exfalso
          have : j = ns.length := by omega
          subst this
          rw [List.getElem?_append_right (Nat.le_refl _), Nat.sub_self] at hc
          cases hc
          exact absurd c18 (by decide)
      have npos : (0 : Int) < (ns.length : Int) := by omega
      have em : kk % (ns.length : Int) = (j : Int) := by
        rw [← ej]
        by_cases g : (ns.length : Int) > 1
        · rw [if_pos g]
        · rw [if_neg g]
          have : (ns.length : Int) = 1 := by omega
          rw [this]
      refine ⟨_, rfl, _, rfl, _, _, rfl, rfl, hw _, ?_⟩
      refine ⟨_, rfl, h, _, _, _, rfl, rfl, SqL.of eh2, at_of (j := 1) rfl rfl, _, rfl, h, _, _, _, rfl, rfl, SqL.of eh2, at_of (j := 2) rfl rfl, _, rfl, h, _, _, _, rfl, rfl, SqL.of eh2, at_of (j := 1) rfl rfl, l, _, rfl, .inl (SqL.of el2), _, _, rfl, rfl, by rw [lm]; exact npos, ?_⟩
      have ix : ixN (ns.map V.int).length (kk % ((ns.map V.int).length : Int)) = some j := by
        rw [lm, em]
        unfold ixN
        rw [if_pos (by omega), if_pos (by omega), Int.toNat_natCast]
      refine ⟨l, _, _, j, rfl, rfl, el2, ix, ?_⟩
      refine ⟨_, rfl, _, rfl, _, _, rfl, rfl, n0, ?_⟩
      have ns' : (ns.map V.int).set j (.int (cell / n)) = (ns.set j (cell / n)).map V.int := by rw [List.map_set]
      refine fin (cell % n) m kk (ns.set j (cell / n)) _ (Int.emod_nonneg _ (by omega)) (Int.emod_lt_of_pos _ n0) (List.length_set ..) (by rw [upd_ne hne]; exact eh2) (upd_lst ns') fun b o _ nl e => by rw [upd_ne nl]; exact e
    · refine ⟨_, rfl, h, _, _, _, rfl, rfl, SqL.of eh2, at_of (j := 0) rfl rfl, _, _, rfl, rfl, .inr ⟨by decide, by decide⟩, _, rfl, _, _, rfl, rfl, .inr ⟨by decide, by decide⟩, _, _, rfl, rfl, _, _, rfl, rfl, _, _, rfl, rfl, (by show (0 : Int) < 2147483647; decide), ?_⟩
      refine ⟨_, rfl, h, _, _, 0, rfl, rfl, eh2, rfl, ?_⟩
      refine ⟨_, rfl, h, _, _, _, rfl, rfl, SqL.of upd_same, at_of (j := 2) rfl rfl, _, _, rfl, rfl, ?_⟩
      refine ⟨_, rfl, h, _, _, 2, rfl, rfl, upd_same, rfl, ?_⟩
      refine ⟨_, rfl, h, _, _, _, rfl, rfl, SqL.of upd_same, at_of (j := 0) rfl rfl, _, _, rfl, rfl, ⟨by decide, by decide⟩, _, rfl, _, _, rfl, rfl, n0, ?_⟩
      refine fin _ _ _ ns _ (Int.emod_nonneg _ (by omega)) (Int.emod_lt_of_pos _ n0) rfl upd_same (by rw [upd_ne (Ne.symm hne), upd_ne (Ne.symm hne)]; exact el2) fun b o nh _ e => by rw [upd_ne nh, upd_ne nh]; exact e
end
end Cc

/-! The laws of the second part: drawn steps, the plan of steps. -/
namespace Cc
open PySem PySem.Spec PyProof.Rows L2
theorem Steps.but2 {h l : Addr} {H H1 : Hp} {ws : List V} {ss : List Stp} (g : Steps H ws ss) (b : But2 h l H H1) (n : NextAt H h l) : Steps H1 ws ss := g.mono (b.tup n)
theorem PlanAt.but2 {C h l p : Addr} {H H1 : Hp} {ss : List Stp} (g : PlanAt C H p ss) (b : But2 h l H H1) (n : NextAt H h l) : PlanAt C H1 p ss :=
  let ⟨dx, tp, ws, a, e, s⟩ := g
  let ⟨o, d0, e'⟩ := e
  ⟨dx, tp, ws, b.ins n a, ⟨o, d0, b _ _ (let ⟨_, q⟩ := n.h1; ne_of e' q fun z => nomatch z) (let ⟨_, q⟩ := n.l1; ne_of e' q fun z => nomatch z) e'⟩, s.but2 b n⟩
theorem steps_upd {H : Hp} {l : Addr} {xs ys : List V} {ws : List V} {ss : List Stp} (h : H l = some (.lst xs)) (s : Steps H ws ss) : Steps (upd H l (.lst ys)) ws ss := s.mono fun t us e => by
  rw [upd_ne (ne_of e h fun z => nomatch z)]
  exact e
def spSteps2 : Sp := fun vs H Q _ => ∃ (h l : Addr) (c m : Int), vs = [.ref h, .int c, .int m] ∧ NextAt H h l ∧ 0 ≤ c ∧ c ≤ 1000000000000000000 ∧ 0 ≤ m ∧ m ≤ 50 ∧
  ∀ r ws ss H', H r = none → H' r = some (.lst ws) → Steps H' ws ss → (ss.length : Int) ≤ m → (∀ s ∈ ss, s.ok c) → NextAt H' h l → But2 h l H H' → Q (.ref r) H'
def spLPlan (C : Addr) : Sp := fun vs H Q _ => ∃ (l : Addr) (ws : List V) (ss : List Stp), vs = [.ref l] ∧ H l = some (.lst ws) ∧ Steps H ws ss ∧ ss.length ≤ 60 ∧ (∀ s ∈ ss, s.ok 1000000000000000000) ∧ ∀ p H', Same H H' → PlanAt C H' p ss → Q (.ref p) H'
section
variable {P : Program} {w : World} {K : PySem.W.Frag} {mg : Str → Option Value} {base : Heap} {C TU pS gS : Addr} {mc : Value}
abbrev s__law_steps : Stmt := top 35
abbrev n__law_steps : List Str := ["_law_h", "_law_chairs", "_law_most", "_law_found", "_law_k"]
theorem sc__law_steps : FnScope n__law_steps ["_law_h", "_law_chairs", "_law_most"] (defScope s__law_steps) := ⟨rfl, rfl, rfl, by decide +kernel, rfl, by decide +kernel, by decide +kernel⟩
theorem ok__law_steps {f f__law_next : Addr} {fd : FuncData} (F : Fun K "_law_steps" "_law_steps" s__law_steps f fd) (B : Bt mg) (D__law_next : Dn P w K mg base 1 "_law_next" f__law_next spNext) : FnOk P w K mg base CX0 2 f fd ["_law_h", "_law_chairs", "_law_most"] spSteps2 := by
  refine F.ok sc__law_steps (fun vs H Q E h => ?_) (fun cdv A outer s H vs Q E hr h => ?_)
  · obtain ⟨h, l, c, m, rfl, _⟩ := h
    rfl
  · obtain ⟨h, l, c, m, rfl, N0, c0, c1, m0, m1, k⟩ := h
    refine ⟨_, pss_cons (ps_set (i := 3) sc__law_steps.nd rfl (.inl rfl) (pe_lst pa_nil))
      (pss_cons (ps_for PassesOwn.never rfl (pi_range1 rfl B.range (pa_cons (pe_callR D__law_next.ok (hr.mono (by decide)) rfl D__law_next.at_ D__law_next.kp pass0 (pa_cons (pv 0) (pa_cons (pe_op op_add (pv 2) pe_int) pa_nil))) pa_nil)) (pg_name (i := 4) sc__law_steps.nd rfl (.inl rfl))
        (pss_one (ps_if (pt_cmpR op_eq (pe_callR D__law_next.ok (hr.mono (by decide)) rfl D__law_next.at_ D__law_next.kp pass0 (pa_cons (pv 0) (pa_cons pe_int pa_nil))) pe_int (nomark _))
          (pss_one (ps_expr (pe_bm PySem.F.plainAttrs_list PySem.F.slot_list_append PySem.F.type_list_append mt_append (pv 3) (pa_cons (pe_tup (pa_cons pe_str pa_nil)) pa_nil))))
          (pss_one (ps_expr (pe_bm PySem.F.plainAttrs_list PySem.F.slot_list_append PySem.F.type_list_append mt_append (pv 3) (pa_cons (pe_tup (pa_cons (pe_ix ix_list (pe_lst (pa_cons pe_str (pa_cons pe_str pa_nil))) (pe_callR D__law_next.ok (hr.mono (by decide)) rfl D__law_next.at_ D__law_next.kp pass0 (pa_cons (pv 0) (pa_cons pe_int pa_nil))) (fun _ _ => rfl)) (pa_cons (pe_callR D__law_next.ok (hr.mono (by decide)) rfl D__law_next.at_ D__law_next.kp pass0 (pa_cons (pv 0) (pa_cons (pe_op op_add (pv 1) pe_int) pa_nil))) pa_nil))) pa_nil)))))))
      (pss_one (ps_ret (pv 3)))), ?_⟩
    refine ⟨by show 0 ≤ sizeLine; decide, fun r0 hr0 => ?_⟩
    have nh : r0 ≠ h := fun z => by
      subst z
      obtain ⟨xs, e⟩ := N0.h1
      rw [hr0] at e
      cases e
    have nl : r0 ≠ l := fun z => by
      subst z
      obtain ⟨xs, e⟩ := N0.l1
      rw [hr0] at e
      cases e
    have s0 := same_upd (o := .lst []) hr0
    refine ⟨_, rfl, _, rfl, _, _, rfl, rfl, h, l, m + 1, rfl, N0.same s0, by omega, by omega, fun n H1 n0 n1 N1 b1 => ⟨_, rfl, by omega, by omega, ?_⟩⟩
    have cc : ∀ {Hx Hy : Hp}, But2 h l Hx Hy → ∀ {xs}, Hx r0 = some (.lst xs) → Hy r0 = some (.lst xs) := fun b _ e => b _ _ nh nl e
    refine for_range (lo := 0) (n := n.toNat) (fun i σ H' => ∃ (ws : List V) (ss : List Stp) (x : Option V), σ = [some (.ref h), some (.int c), some (.int m), some (.ref r0), x] ∧ NextAt H' h l ∧ But2 h l H H' ∧ H' r0 = some (.lst ws) ∧ Steps H' ws ss ∧ ss.length = i ∧ ∀ s ∈ ss, s.ok c)
      ⟨[], [], none, rfl, N1, (But2.of s0).trans b1, cc b1 upd_same, .nil, rfl, fun s hs => nomatch hs⟩ ?_ ?_
    · rintro i σ H2 hi ⟨ws, ss, x, rfl, N2, b2, e2, g2, sl, so⟩
      have lw : ws.length = i := by rw [g2.length, sl]
      have fin : ∀ (st : Stp) (t : Addr) (H3 : Hp), NextAt H3 h l → But2 h l H2 H3 → H3 t = none → st.ok c → ∃ (ws' : List V) (ss' : List Stp) (x' : Option V), ([some (V.ref h), some (V.int c), some (V.int m), some (V.ref r0), some (V.int (0 + (i : Nat)))] : L2.St) = [some (.ref h), some (.int c), some (.int m), some (.ref r0), x'] ∧
          NextAt (upd (upd H3 t (.tup (stpV st))) r0 (.lst (ws ++ [.ref t]))) h l ∧ But2 h l H (upd (upd H3 t (.tup (stpV st))) r0 (.lst (ws ++ [.ref t]))) ∧ (upd (upd H3 t (.tup (stpV st))) r0 (.lst (ws ++ [.ref t]))) r0 = some (.lst ws') ∧ Steps (upd (upd H3 t (.tup (stpV st))) r0 (.lst (ws ++ [.ref t]))) ws' ss' ∧ ss'.length = i + 1 ∧ ∀ s ∈ ss', s.ok c := by
        intro st t H3 N3 b3 ht ok
        have s3 := same_upd (o := .tup (stpV st)) ht
        have e3 := s3 _ _ (cc b3 e2)
        have nt : t ≠ r0 := (ne_of_none (cc b3 e2) ht).symm
        have g3 := steps_upd (ys := ws ++ [.ref t]) e3 ((g2.but2 b3 N2).same s3)
        have N4 := N3.same s3
        obtain ⟨mm, kk, ns, q1, q2, q3, q4⟩ := N4
        refine ⟨ws ++ [.ref t], ss ++ [st], _, rfl, ⟨mm, kk, ns, by rw [upd_ne (Ne.symm nh)]; exact q1, by rw [upd_ne (Ne.symm nl)]; exact q2, q3, q4⟩, fun b o a1 a2 e => ?_, upd_same, g3.append (.cons ⟨t, rfl, by rw [upd_ne nt, upd_same]⟩ .nil), by rw [List.length_append, sl]; rfl, fun s hs => ?_⟩
        · rw [upd_ne (ne_of_none e hr0)]
          exact s3 _ _ (b3 _ _ a1 a2 (b2 _ _ a1 a2 e))
        · rcases (List.mem_append.mp hs) with q | q
          · exact so s q
          · rw [(List.mem_singleton.mp q)]
            exact ok
      refine ⟨_, rfl, h, l, 5, rfl, N2, by decide, by decide, fun r2 H3 _ _ N3 b3 => ⟨rfl, _, rfl, ?_⟩⟩
      have e3 := cc b3 e2
      refine ite2 (fun _ => ?_) (fun _ => ?_)
      · refine ⟨_, rfl, .inl ⟨rfl, _, SqL.of e3⟩, by show 1 ≤ sizeLine; decide, fun t ht => ⟨r0, ws, _, rfl, rfl, (same_upd ht) _ _ e3, small1000 (by omega), ?_⟩⟩
        exact fin .turn t H3 N3 b3 ht trivial
      · refine ⟨_, rfl, .inl ⟨rfl, _, SqL.of e3⟩, by show 2 ≤ sizeLine; decide, fun l2 hl2 => ?_⟩
        have s4 := same_upd (o := .lst [.str "red", .str "blue"]) hl2
        refine ⟨_, rfl, h, l, 2, rfl, N3.same s4, by decide, by decide, fun rr H5 q0 q1 N5 b5 => ?_⟩
        have n2h : l2 ≠ h := let ⟨_, e⟩ := N3.h1; (ne_of_none e hl2).symm
        have n2l : l2 ≠ l := let ⟨_, e⟩ := N3.l1; (ne_of_none e hl2).symm
        obtain ⟨bb, hb⟩ : ∃ bb, atI [V.str "red", V.str "blue"] rr = some (V.str (roomS bb)) := by
          have : rr = ((0 : Nat) : Int) ∨ rr = ((1 : Nat) : Int) := by omega
          rcases this with z | z
          · exact ⟨true, at_of z rfl⟩
          · exact ⟨false, at_of z rfl⟩
        refine ⟨l2, _, _, _, rfl, rfl, SqL.of (b5 _ _ n2h n2l upd_same), hb, ?_⟩
        refine ⟨_, rfl, _, rfl, _, _, rfl, rfl, h, l, c + 1, rfl, N5, by omega, by omega, fun nd H6 d0 d1 N6 b6 => ⟨by show 2 ≤ sizeLine; decide, fun t ht => ?_⟩⟩
        have b36 : But2 h l H3 H6 := ((But2.of s4).trans b5).trans b6
        refine ⟨r0, ws, _, rfl, rfl, (same_upd ht) _ _ (cc b36 e3), small1000 (by omega), ?_⟩
        exact fin (.meet bb nd) t H6 N6 (b3.trans b36) ht ⟨d0, by omega⟩
    · rintro σ H2 ⟨ws, ss, x, rfl, N2, b2, e2, g2, sl, so⟩
      exact ⟨_, rfl, k r0 ws ss H2 hr0 e2 g2 (by omega) so N2 b2⟩
abbrev s__law_plan : Stmt := top 36
abbrev n__law_plan : List Str := ["_law_steps_here", "_law_plan_here", "_law_step_here"]
theorem sc__law_plan : FnScope n__law_plan ["_law_steps_here"] (defScope s__law_plan) := ⟨rfl, rfl, rfl, by decide +kernel, rfl, by decide +kernel, by decide +kernel⟩
theorem ok__law_plan {f fI fJ : Addr} {fd : FuncData} (F : Fun K "_law_plan" "_law_plan" s__law_plan f fd) (T : Txt K mg C TU pS gS mc) (M : Mk K C fI) (GI : FnR P w K mg base CX0 3 fI (spInit C)) (MJ : Meth K C "joined" fJ) (GJ : FnR P w K mg base CX0 5 fJ (spJoined C)) : FnOk P w K mg base CX0 6 f fd ["_law_steps_here"] (spLPlan C) := by
  refine F.ok sc__law_plan (fun vs H Q E h => ?_) (fun cdv A outer s H vs Q E hr h => ?_)
  · obtain ⟨l, ws, ss, rfl, _⟩ := h
    rfl
  · obtain ⟨l, ws, ss, rfl, hl, hs, hn, ho, k⟩ := h
    refine ⟨_, pss_cons (ps_set (i := 1) sc__law_plan.nd rfl (.inl rfl) (pe_makeR0 M GI (hr.mono (by decide)) rfl T.gP pass0))
      (pss_cons (ps_for PassesOwn.never rfl (pi_list (pv 0)) (pg_name (i := 2) sc__law_plan.nd rfl (.inl rfl))
        (pss_one (ps_set (i := 1) sc__law_plan.nd rfl (.inl rfl) (pe_methR (pv 1) T.cl MJ GJ (hr.mono (by decide)) pass0 (pa_cons (StX.pe_makeR M GI (hr.mono (by decide)) rfl T.gP pass0 (pa_cons (pv 2) pa_nil)) pa_nil)))))
      (pss_one (ps_ret (pv 1)))), ?_⟩
    intro x dx hx hdx hne
    have made : ∀ {H : Hp} {x dx : Addr}, H x = none → H dx = none → Same H (upd (upd H dx (.own x)) x (.ins C dx [])) := fun hx hdx b o e => by
      rw [upd_ne (ne_of_none e hx), upd_ne (ne_of_none e hdx)]
      exact e
    refine ⟨x, dx, [], [], rfl, upd_same, .nil, by decide, by simp, fun H1 tp b1 b2 b3 => ⟨rfl, ?_⟩⟩
    have s1 : Same H H1 := fun b o e => b1 b o (ne_of_none e hx) (made hx hdx b o e)
    refine ⟨_, rfl, l, rfl, ⟨_, SqL.of (s1 _ _ hl)⟩, for_list (K := K) (a := l) (xs := ws) (fun i σ H' => ∃ (p : Addr) (v : Option V), σ = [some (.ref l), some (.ref p), v] ∧ Same H H' ∧ PlanAt C H' p (ss.take i))
      ⟨x, none, rfl, s1, dx, tp, [], b2, b3, .nil⟩ (fun i σ H' _ ⟨_, _, _, s2, _⟩ => SqL.of (s2 _ _ hl)) ?_ ?_⟩
    · rintro i y σ H' hi ⟨p, v, rfl, s2, pl⟩
      obtain ⟨st, hst, t, rfl, ht⟩ := hs.get hi
      have okst := ho st (List.mem_of_getElem? hst)
      obtain ⟨dp, tq, zs, e1, e2, e3⟩ := id pl
      refine ⟨_, rfl, p, dp, _, rfl, e1, lk_no (by decide +kernel), _, rfl, fun q dq hq hdq hne => ?_⟩
      have s3 : Same H' (upd (upd H' dq (.own q)) q (.ins C dq [])) := made hq hdq
      have ht2 := s3 _ _ (s2 _ _ ht)
      refine ⟨q, dq, [.ref t], [st], rfl, upd_same, .cons ⟨t, rfl, ht2⟩ .nil, by show 1 ≤ 60; decide, fun z hz => (List.mem_singleton.mp hz) ▸ okst, fun H2 tz b4 b5 b6 => ⟨rfl, ?_⟩⟩
      have s4 : Same H' H2 := fun b o e => b4 b o (ne_of_none e hq) (s3 b o e)
      have le : i < ss.length := (List.getElem?_eq_some_iff.mp hst).1
      have et : ss.take i ++ [st] = ss.take (i + 1) := (take_more hst).symm
      refine ⟨p, ss.take i, q, [st], rfl, pl.same s4, ⟨dq, tz, [.ref t], b5, b6, .cons ⟨t, rfl, s4 _ _ (s2 _ _ ht)⟩ .nil⟩, ?_, ?_, fun r H3 s5 pr => ?_⟩
      · rw [et, List.length_take]
        omega
      · rw [et]
        exact fun z hz => ho z (List.mem_of_mem_take hz)
      · rw [et] at pr
        exact ⟨r, _, rfl, (s2.trans s4).trans s5, pr⟩
    · rintro σ H' ⟨p, v, rfl, s2, pl⟩
      rw [hs.length, List.take_length] at pl
      exact ⟨_, rfl, k p H' s2 pl⟩
end
end Cc

/-! Steps of which some are the module's own turn. -/
namespace Cc
open PySem PySem.Spec PyProof.Rows L2
/-- a step, wherever its tuple stands -/
def StepV (K : PySem.W.Frag) (H : Hp) (v : V) (s : Stp) : Prop := ∃ t, v = .ref t ∧ ∀ H', (∀ t xs, H t = some (.tup xs) → H' t = some (.tup xs)) → SqT K H' t (stpV s)
def StepsV (K : PySem.W.Frag) (H : Hp) (vs : List V) (ss : List Stp) : Prop := Paired (StepV K H) vs ss
theorem StepV.of {K : PySem.W.Frag} {H : Hp} {v : V} {s : Stp} (h : StepAt H v s) : StepV K H v s :=
  let ⟨t, e, g⟩ := h
  ⟨t, e, fun H' k => SqT.of (k _ _ g)⟩
theorem StepV.mono {K : PySem.W.Frag} {H H1 : Hp} {v : V} {s : Stp} (h : StepV K H v s) (m : ∀ t xs, H t = some (.tup xs) → H1 t = some (.tup xs)) : StepV K H1 v s :=
  let ⟨t, e, g⟩ := h
  ⟨t, e, fun H' k => g H' fun t xs z => k t xs (m t xs z)⟩
theorem StepsV.of {K : PySem.W.Frag} {H : Hp} : ∀ {vs : List V} {ss : List Stp}, Steps H vs ss → StepsV K H vs ss
  | _, _, .nil => .nil
  | _, _, .cons a r => .cons (.of a) (StepsV.of r)
theorem StepsV.mono {K : PySem.W.Frag} {H H1 : Hp} : ∀ {vs : List V} {ss : List Stp}, StepsV K H vs ss → (∀ t xs, H t = some (.tup xs) → H1 t = some (.tup xs)) → StepsV K H1 vs ss
  | _, _, .nil, _ => .nil
  | _, _, .cons a r, m => .cons (a.mono m) (StepsV.mono r m)
theorem StepsV.append {K : PySem.W.Frag} {H : Hp} : ∀ {vs ws : List V} {ss us : List Stp}, StepsV K H vs ss → StepsV K H ws us → StepsV K H (vs ++ ws) (ss ++ us)
  | _, _, _, _, .nil, h => h
  | _, _, _, _, .cons a r, h => .cons a (StepsV.append r h)
theorem StepsV.length {K : PySem.W.Frag} {H : Hp} {vs : List V} {ss : List Stp} (h : StepsV K H vs ss) : vs.length = ss.length := Paired.length h
theorem StepsV.get {K : PySem.W.Frag} {H : Hp} : ∀ {vs : List V} {ss : List Stp} {i : Nat} {v : V}, StepsV K H vs ss → vs[i]? = some v → ∃ s, ss[i]? = some s ∧ StepV K H v s
  | _, _, 0, _, .cons a r, e => by
    cases e
    exact ⟨_, rfl, a⟩
  | _, _, i + 1, v, .cons a r, e => StepsV.get (i := i) r e
theorem StepsV.same {K : PySem.W.Frag} {H H1 : Hp} {vs : List V} {ss : List Stp} (h : StepsV K H vs ss) (s : Same H H1) : StepsV K H1 vs ss := h.mono fun t xs e => s _ _ e
theorem same_none {H H1 : Hp} {p : Addr} (s : Same H H1) (h : H1 p = none) : H p = none := by
  cases e : H p with
  | none => rfl
  | some o =>
    rw [s _ _ e] at h
    cases h
theorem sqT_ty {K : PySem.W.Frag} {H : Hp} {t : Addr} {xs : List V} (h : SqT K H t xs) : TyX K H (.ref t) (.type "tuple") := by
  rcases h with (h | ⟨o, h⟩) | ⟨o, its, n, h, c, _⟩
  · exact .base (.tup h)
  · exact .fTuple h
  · exact .kTuple h c
def spIsStepV (K : PySem.W.Frag) : Sp := fun vs H Q _ => ∃ (v : V) (s : Stp), vs = [v] ∧ StepV K H v s ∧ s.ok 1000000000000000000 ∧ ∀ H', Same H H' → Q (.bl true) H'
def spInitSV (K : PySem.W.Frag) (C : Addr) : Sp := fun vs H Q _ => ∃ (x tp dx : Addr) (ws : List V) (ss : List Stp), vs = [.ref x, .ref tp] ∧ H x = some (.ins C dx []) ∧ TupP H tp ws ∧ StepsV K H ws ss ∧ ss.length ≤ 60 ∧ (∀ s ∈ ss, s.ok 1000000000000000000) ∧
  ∀ H', But x H H' → H' x = some (.ins C dx [("step_tuple", .ref tp)]) → Q .non H'
def spInitV (K : PySem.W.Frag) (C : Addr) : Sp := fun vs H Q _ => ∃ (x dx : Addr) (ws : List V) (ss : List Stp), vs = .ref x :: ws ∧ H x = some (.ins C dx []) ∧ StepsV K H ws ss ∧ ss.length ≤ 60 ∧ (∀ s ∈ ss, s.ok 1000000000000000000) ∧
  ∀ H' tp, But x H H' → H' x = some (.ins C dx [("step_tuple", .ref tp)]) → TupP H' tp ws → Q .non H'
/-- a plan, some of whose turns may be the module's -/
def PlanV (K : PySem.W.Frag) (C : Addr) (H : Hp) (p : Addr) (ss : List Stp) : Prop := ∃ dx tp ws, H p = some (.ins C dx [("step_tuple", .ref tp)]) ∧ TupP H tp ws ∧ StepsV K H ws ss
theorem PlanV.same {K : PySem.W.Frag} {C : Addr} {H H1 : Hp} {p : Addr} {ss : List Stp} (h : PlanV K C H p ss) (s : Same H H1) : PlanV K C H1 p ss :=
  let ⟨dx, tp, ws, a, b, c⟩ := h
  ⟨dx, tp, ws, s _ _ a, b.same s, c.same s⟩
section
variable {P : Program} {w : World} {K : PySem.W.Frag} {mg : Str → Option Value} {base : Heap} {C TU pS gS : Addr} {mc : Value}
theorem turn_stepV (T : Txt K mg C TU pS gS mc) (H : Hp) : StepV K H (.ref TU) .turn := ⟨TU, rfl, fun H' _ => T.tT H'⟩
theorem ok_isstepV {f fN : Addr} {fd : FuncData} (F : Fun K "is_step" "is_step" sIsStep f fd) (T : Txt K mg C TU pS gS mc) (N : Dn P w K mg base 1 "is_number" fN spIsNum) : FnOk P w K mg base CX0 2 f fd ["step"] (spIsStepV K) := by
  refine F.ok scIsStep (fun vs H Q E h => ?_) (fun cdv A outer s H vs Q E hr h => ?_)
  · obtain ⟨v, s, rfl, _⟩ := h
    rfl
  · obtain ⟨v, st, rfl, ⟨t, rfl, ht'⟩, ok, k⟩ := h
    have ht := ht' H fun _ _ e => e
    obtain ⟨u, hu⟩ := T.cc
    refine ⟨_, pss_cons (ps_if (pt_not (pt_val (pe_callB call_isi (by rfl) T.b.isinstance (by decide +kernel) (pa_cons (pv 0) (pa_cons (pe_bltn (v := .ty "tuple") (by rfl) T.b.tuple (by decide +kernel) rfl) pa_nil))))) (pss_one (ps_ret pe_bl)) pss_nil)
      (pss_cons (ps_if (pt_cmpR op_eq (pe_callB call_len (by rfl) T.b.len PySem.boot_len (pa_cons (pv 0) pa_nil)) pe_int (nomark _))
        (pss_one (ps_ret (pe_and (pe_cmpR op_in_seq (pe_ix ix_tup (pv 0) pe_int (fun _ _ => rfl)) (pe_tup (pa_cons pe_str (pa_cons pe_str pa_nil))) (by rfl))
          (pe_one (pe_callR N.ok hr rfl N.at_ N.kp pass0 (pa_cons (pe_ix ix_tup (pv 0) pe_int (fun _ _ => rfl)) (pa_cons pe_int (pa_cons (ClX.pe_cval (pe_glob (v := .ref C) rfl T.gP rfl)) pa_nil)))))))) pss_nil)
      (pss_one (ps_ret (pe_cmpR (op_eqD hr.units) (pv 0) (pe_glob (v := .ref TU) rfl T.gT rfl) (nomark _))))), ?_⟩
    refine ⟨_, rfl, _, _, _, _, true, rfl, .ty "tuple", sqT_ty ht, kit_ty (by decide +kernel), true, rfl, ?_⟩
    refine iteF ?_
    refine ⟨_, rfl, _, _, rfl, .inr ⟨_, ht, rfl⟩, rfl, ?_⟩
    cases st with
    | turn =>
      refine ⟨_, rfl, iteF ?_⟩
      refine ⟨_, rfl, .tuple [.str "turn"], .tuple [.str "turn"], .tup ht (.cons (.str _) .nil), .tup (T.tT _) (.cons (.str _) .nil), by decide +kernel, by decide +kernel, ?_⟩
      have e : PyData.eqv (.tuple [.str "turn"]) (.tuple [.str "turn"]) = true := by decide +kernel
      rw [e]
      exact k H (Same.refl H)
    | meet bb n =>
      refine ⟨_, rfl, iteT ?_⟩
      refine ⟨_, rfl, t, _, _, _, rfl, rfl, ht, at_of (j := 0) rfl rfl, by show 2 ≤ sizeLine; decide, fun p hp => ?_⟩
      have s1 : Same H (upd H p (.tup [.str "red", .str "blue"])) := same_upd hp
      refine ⟨p, _, rfl, .inr (SqT.of upd_same), rfl, by decide, _, rfl, ?_⟩
      have e : inV (.str (roomS bb)) [.str "red", .str "blue"] = true := by cases bb <;> decide +kernel
      rw [e]
      refine iteT ⟨_, rfl, t, _, _, _, rfl, rfl, ht' _ fun _ _ z => s1 _ _ z, at_of (j := 1) rfl rfl, C, mc, _, u, rfl, T.rd, hu, n, 0, _, rfl, ?_⟩
      rw [decide_eq_true (show (0 : Int) ≤ n ∧ n ≤ 1000000000000000000 from ok)]
      exact k _ s1
theorem ok_initV {f fS : Addr} {fd : FuncData} (F : Fun K "__init__" "Plan.__init__" sInit f fd) (T : Txt K mg C TU pS gS mc) (N : Dn P w K mg base 2 "is_step" fS (spIsStepV K)) : FnR P w K mg base CX0 3 f (spInitV K C) := by
  obtain ⟨z1, z2, z3, z4, z5, z6, cdv, z7, z8, rfl, lk, hcd⟩ := F.ex
  refine (fn_starZ (ps := ["self"]) (pv := "steps") (sp := spInitSV K C) (k := 2) lk hcd scInit StX.cxUp_none (StX.bind_star1 (B := fun us => bindArgs _ ⟨us, []⟩) (fun _ => rfl) (fun _ _ _ => rfl)) fun A outer s H vs Q E hr h => ?_).imp fun vs H Q E h => ?_
  · obtain ⟨x, tp, dx, ws, ss, rfl, e1, e2, e3, hl, hs, k⟩ := h
    obtain ⟨u, hu⟩ := T.cs
    suffices h : ∃ t, PSs (cxOf CX0 P w K mg base ["self", "steps", "index", "step"] "Plan.__init__" (defScope sInit) f cdv A outer s H E).nox (defBody sInit) t ∧ t { nx := fun _ H' => Q .non H', rt := Q } (start ["self", "steps", "index", "step"] [.ref x, .ref tp]) H by
      obtain ⟨t, h1, h2⟩ := h
      exact ⟨t, h1.nox, h2⟩
    refine ⟨_, pss_cons (ps_for PassesOwn.never rfl (pi_enumT (by rfl) T.b.enumerate (pa_cons (pv 1) pa_nil))
        (pg_tup rfl (pgs_cons (pg_name (i := 2) scInit.nd rfl (.inl rfl)) (pgs_cons (pg_name (i := 3) scInit.nd rfl (.inl rfl)) pgs_nil)))
        (pss_one (ps_if (PW.pt (pw_or (pt_cmpR op_eq (pv 2) (ClX.pe_cval (pe_glob (v := .ref C) rfl T.gP rfl)) (nomark _))
          (pw_or1 (pt_not (pt_val (pe_callR N.ok hr rfl N.at_ N.kp pass0 (pa_cons (pv 3) pa_nil))))))) (pss_one ps_never) pss_nil)))
      (pss_one (ps_fld (pv 0) (pv 1) rfl)), ?_⟩
    refine ⟨_, rfl, tp, ws, rfl, e2.sq, ?_⟩
    refine for_it (walk_enumT (xs := ws)) (fun i σ H' => ∃ a b, σ = [some (.ref x), some (.ref tp), a, b] ∧ Same H H') ⟨none, none, rfl, Same.refl H⟩ (fun i σ H' _ ⟨_, _, _, s1⟩ => (e2.same s1).sq) ?_ ?_
    · rintro i v σ H1 H2 hi ⟨a, b, rfl, s1⟩ ⟨q, y1, y2, rfl, n1, rfl, z1, z2⟩
      obtain ⟨st, hst, hv⟩ := e3.get z2
      have okst := hs st (List.mem_of_getElem? hst)
      have s2 : Same H (upd H1 q (.tup [y1, y2])) := s1.trans (same_upd n1)
      cases z1
      refine ⟨q, _, rfl, SqT.of upd_same, rfl, _, _, rfl, _, _, rfl, rfl, ?_⟩
      have hi' : i < 60 := by
        have := e3.length
        omega
      refine ⟨_, rfl, C, mc, _, u, rfl, T.rd, hu, rfl, _, rfl, ?_⟩
      rw [decide_eq_false (show ¬ V.int (i : Int) = V.int 60 from fun z => by injection z with z; omega)]
      refine iteF ?_
      refine ⟨_, rfl, _, st, rfl, hv.mono fun _ _ z => s2 _ _ z, okst, fun H3 s3 => ⟨_, rfl, ?_⟩⟩
      exact iteF ⟨_, _, rfl, s2.trans s3⟩
    · rintro σ H' ⟨a, b, rfl, s1⟩
      refine ⟨_, rfl, _, rfl, x, C, dx, _, rfl, s1 _ _ e1, T.cl, T.nS, (by show 0 < 1000; decide), ?_⟩
      exact k _ (fun b o n e => by rw [upd_ne n]; exact s1 _ _ e) upd_same
  · obtain ⟨x, dx, ws, ss, rfl, e1, e3, hl, hs, k⟩ := h
    refine ⟨[.ref x], ws, rfl, rfl, ?_, fun p ob hp hd => ?_⟩
    · rw [e3.length]
      exact Nat.le_trans hl (by decide)
    · have s1 : Same H (upd H p (.frz ob (.tup ws))) := same_upd hp
      refine ⟨x, p, dx, ws, ss, rfl, s1 _ _ e1, ⟨ob, hd, upd_same⟩, e3.same s1, hl, hs, fun H' b1 b2 => ?_⟩
      exact k H' p (fun b o n e => b1 b o n (s1 _ _ e)) b2 ⟨ob, hd, b1 _ _ (ne_of_none e1 hp).symm upd_same⟩
end
end Cc

/-! summary: what a plan does to all starts. -/
namespace Cc
open PySem PySem.Spec PyProof.Rows L2
structure Sm where
  low : Int
  high : Int
  extra : Int
  goal : Option Int
  turned : Bool
def goalV : Option Int → V
  | none => .non
  | some g => .int g
/-- how many chairs the room that was red at first may have -/
def allowF (c : Int) (t b : Bool) (n : Int) : Int × Int := if b == t then (0, c - n) else (n, c)
def nearF (g a b : Int) : Int := if b < (if a > g then a else g) then b else (if a > g then a else g)
/-- a meeting behind steps that only keep to a range -/
def narrowF (lo hi a b : Int) : Int × Int × Int × Option Int :=
  if a > hi then (hi, hi, a - hi, some a) else if b < lo then (lo, lo, lo - b, some b) else (mx lo a, (if b < hi then b else hi), 0, none)
def smStep (c : Int) (m : Sm) : Stp → Sm
  | .turn => { m with turned := !m.turned }
  | .meet b n => match m.goal with
    | none => let z := narrowF m.low m.high (allowF c m.turned b n).1 (allowF c m.turned b n).2; { m with low := z.1, high := z.2.1, extra := z.2.2.1, goal := z.2.2.2 }
    | some g => { m with extra := m.extra + ab (nearF g (allowF c m.turned b n).1 (allowF c m.turned b n).2 - g), goal := some (nearF g (allowF c m.turned b n).1 (allowF c m.turned b n).2) }
def smSteps (c : Int) (ss : List Stp) : Sm := ss.foldl (smStep c) ⟨0, c, 0, none, false⟩
theorem smSteps_more (c : Int) (ss : List Stp) (s : Stp) : smSteps c (ss ++ [s]) = smStep c (smSteps c ss) s := by
  unfold smSteps
  rw [List.foldl_append]
  rfl
def smEnd (m : Sm) : Sm := if m.low = m.high ∧ m.goal = none then { m with goal := some m.low } else m
def sideF (t : Bool) : Int := if t then -1 else 1
/-- what a summary says of a start, of the carried and the place -/
structure SmOk (c : Int) (m : Sm) : Prop where
  l0 : 0 ≤ m.low
  lh : m.low ≤ m.high
  h1 : m.high ≤ c
  g : ∀ z, m.goal = some z → 0 ≤ z ∧ z ≤ c
  e : m.goal = none → m.extra = 0
def distF (lo hi x : Int) : Int := if x < lo then lo - x else if hi < x then x - hi else 0
def clampF (lo hi x : Int) : Int := if x < lo then lo else if hi < x then hi else x
def SmSays (m : Sm) (x total place : Int) : Prop := total = distF m.low m.high x + m.extra ∧ place = (match m.goal with | none => clampF m.low m.high x | some z => z)
theorem says_start (c x : Int) (h0 : 0 ≤ x) (h1 : x ≤ c) : SmOk c ⟨0, c, 0, none, false⟩ ∧ SmSays ⟨0, c, 0, none, false⟩ x 0 (placeF c 1 x) := by
  refine ⟨⟨Int.le_refl 0, by show 0 ≤ c; omega, Int.le_refl c, (fun z h => nomatch h), fun _ => rfl⟩, ?_, ?_⟩
  · show 0 = distF 0 c x + 0
    unfold distF
    split
    · omega
    · split <;> omega
  · show placeF c 1 x = clampF 0 c x
    unfold placeF clampF
    simp
    split
    · omega
    · split <;> omega
theorem smOk_step {c : Int} {m : Sm} {s : Stp} (h : SmOk c m) (hs : s.ok c) : SmOk c (smStep c m s) := by
  obtain ⟨low, high, extra, goal, turned⟩ := m
  obtain ⟨l0, lh, h1, hg, he⟩ := h
  simp only at l0 lh h1 hg he
  cases s with
  | turn => exact ⟨l0, lh, h1, hg, he⟩
  | meet b n =>
    obtain ⟨n0, n1⟩ := hs
    cases goal with
    | none =>
      simp only [smStep, narrowF, allowF, mx]
      cases b <;> cases turned <;> simp <;> (split <;> first
        | (constructor <;> simp <;> omega)
        | (split <;> (constructor <;> simp <;> omega)))
    | some z =>
      have hz := hg z rfl
      simp only [smStep, nearF, allowF]
      refine ⟨l0, lh, h1, fun y hy => ?_, fun q => nomatch q⟩
      simp only [Option.some.injEq] at hy
      subst hy
      cases b <;> cases turned <;> simp <;> split <;> split <;> omega
theorem side_of (t : Bool) : sideF t = 1 ∨ sideF t = -1 := by
  cases t <;> simp [sideF]
theorem narrow_says {lo hi a b x : Int} (h : lo ≤ hi) (hab : a ≤ b) : distF lo hi x + ab (clampF a b (clampF lo hi x) - clampF lo hi x) = distF (narrowF lo hi a b).1 (narrowF lo hi a b).2.1 x + (narrowF lo hi a b).2.2.1 ∧
    clampF a b (clampF lo hi x) = (match (narrowF lo hi a b).2.2.2 with | none => clampF (narrowF lo hi a b).1 (narrowF lo hi a b).2.1 x | some z => z) := by
  unfold narrowF
  by_cases q1 : a > hi
  · rw [if_pos q1]
    simp only [distF, clampF, ab]
    omega
  · rw [if_neg q1]
    by_cases q2 : b < lo
    · rw [if_pos q2]
      simp only [distF, clampF, ab]
      omega
    · rw [if_neg q2]
      simp only [distF, clampF, ab, mx]
      omega
theorem near_is {g a b : Int} (hab : a ≤ b) : nearF g a b = clampF a b g := by
  unfold nearF clampF
  omega
/-- a meeting moves the place to the nearest that it allows -/
theorem place_allow {c r n : Int} {b t : Bool} (r0 : 0 ≤ r) (r1 : r ≤ c) (n0 : 0 ≤ n) (n1 : n ≤ c) :
    placeF c (sideF t) (stepF c (.meet b n) r).1 = clampF (allowF c t b n).1 (allowF c t b n).2 (placeF c (sideF t) r) ∧ (stepF c (.meet b n) r).2 = ab (placeF c (sideF t) (stepF c (.meet b n) r).1 - placeF c (sideF t) r) ∧ (allowF c t b n).1 ≤ (allowF c t b n).2 := by
  cases b <;> cases t <;> simp [placeF, sideF, stepF, clampF, allowF, mx, ab] <;> omega
theorem says_step {c : Int} {m : Sm} {s : Stp} {x r total : Int} (ok : SmOk c m) (hs : s.ok c) (r0 : 0 ≤ r) (r1 : r ≤ c) (h : SmSays m x total (placeF c (sideF m.turned) r)) :
    SmSays (smStep c m s) x (total + (stepF c s r).2) (placeF c (sideF (smStep c m s).turned) (stepF c s r).1) := by
  obtain ⟨low, high, extra, goal, turned⟩ := m
  obtain ⟨l0, lh, hc1, hg, he⟩ := ok
  simp only at l0 lh hc1 hg he
  obtain ⟨e1, e2⟩ := h
  simp only at e1 e2
  cases s with
  | turn =>
    refine ⟨?_, ?_⟩
    · show total + 0 = distF low high x + extra
      omega
    · refine Eq.trans ?_ e2
      show placeF c (sideF (!turned)) (c - r) = placeF c (sideF turned) r
      cases turned <;> simp [placeF, sideF] <;> omega
  | meet b n =>
    obtain ⟨n0, n1⟩ := hs
    obtain ⟨f1, f2, f3⟩ := place_allow (c := c) (b := b) (t := turned) r0 r1 n0 n1
    cases goal with
    | none =>
      have he0 := he rfl
      subst he0
      simp only at e2
      obtain ⟨g1, g2⟩ := narrow_says (lo := low) (hi := high) (a := (allowF c turned b n).1) (b := (allowF c turned b n).2) (x := x) lh f3
      refine ⟨?_, ?_⟩
      · refine Eq.trans ?_ g1
        rw [f2, f1, e2, e1, Int.add_zero]
      · refine Eq.trans ?_ g2
        show placeF c (sideF turned) (stepF c (.meet b n) r).1 = _
        rw [f1, e2]
    | some z =>
      simp only at e2
      refine ⟨?_, ?_⟩
      · show total + (stepF c (.meet b n) r).2 = distF low high x + (extra + ab (nearF z (allowF c turned b n).1 (allowF c turned b n).2 - z))
        rw [near_is f3, f2, f1, e2, e1, Int.add_assoc]
      · show placeF c (sideF turned) (stepF c (.meet b n) r).1 = nearF z (allowF c turned b n).1 (allowF c turned b n).2
        rw [near_is f3, f1, e2]
theorem snoc_ind {α : Type} {M : List α → Prop} (h0 : M []) (h1 : ∀ l a, M l → M (l ++ [a])) (l : List α) : M l := by
  have q : ∀ k : List α, M k.reverse := fun k => by
    induction k with
    | nil => exact h0
    | cons a k ih =>
      rw [List.reverse_cons]
      exact h1 _ a ih
  have z := q l.reverse
  rw [List.reverse_reverse] at z
  exact z
/-- behind all steps -/
theorem smSteps_says {c x : Int} (x0 : 0 ≤ x) (x1 : x ≤ c) (ss : List Stp) : (∀ s ∈ ss, s.ok c) → SmOk c (smSteps c ss) ∧ SmSays (smSteps c ss) x (stepsF c ss (x, 0)).2 (placeF c (sideF (smSteps c ss).turned) (stepsF c ss (x, 0)).1) := by
  refine snoc_ind (M := fun ss => (∀ s ∈ ss, s.ok c) → SmOk c (smSteps c ss) ∧ SmSays (smSteps c ss) x (stepsF c ss (x, 0)).2 (placeF c (sideF (smSteps c ss).turned) (stepsF c ss (x, 0)).1)) (fun _ => says_start c x x0 x1) (fun us s ih hs => ?_) ss
  have hd : ∀ s ∈ us, s.ok c := fun z h => hs z (List.mem_append_left _ h)
  obtain ⟨ok, sy⟩ := ih hd
  obtain ⟨r0, r1, _⟩ := stepsF_in (c := c) (ss := us) (r := x) (t := 0) hd x0 x1 (Int.le_refl 0)
  have hg := hs s (List.mem_append_right _ List.mem_cons_self)
  rw [smSteps_more, stepsF_one]
  exact ⟨smOk_step ok hg, says_step ok hg r0 r1 sy⟩
theorem smEnd_says {c : Int} {m : Sm} {x total place : Int} (ok : SmOk c m) (h : SmSays m x total place) : SmOk c (smEnd m) ∧ SmSays (smEnd m) x total place ∧ ((smEnd m).low = (smEnd m).high → (smEnd m).goal ≠ none) ∧ (smEnd m).turned = m.turned := by
  obtain ⟨low, high, extra, goal, turned⟩ := m
  obtain ⟨l0, lh, hc1, hg, he⟩ := ok
  simp only at l0 lh hc1 hg he
  obtain ⟨e1, e2⟩ := h
  simp only at e1 e2
  unfold smEnd
  by_cases q : low = high ∧ goal = none
  · simp only [q, and_self, if_true]
    obtain ⟨q1, q2⟩ := q
    subst q1 q2
    simp only at e2
    refine ⟨⟨l0, Int.le_refl _, hc1, fun z hz => ?_, fun h => nomatch h⟩, ⟨e1, ?_⟩, (fun _ h => nomatch h), by first | rfl | trivial⟩
    · cases hz
      exact ⟨l0, hc1⟩
    · rw [e2]
      show clampF low low x = low
      unfold clampF
      omega
  · simp only [q, if_false]
    exact ⟨⟨l0, lh, hc1, hg, he⟩, ⟨e1, e2⟩, fun h1 h2 => q ⟨h1, h2⟩, by first | rfl | trivial⟩
/-- the number of turns -/
def turnsF (ss : List Stp) : Nat := (ss.filter fun s => match s with | .turn => true | .meet _ _ => false).length
theorem turned_is (c : Int) (ss : List Stp) : (smSteps c ss).turned = decide (turnsF ss % 2 = 1) := by
  refine snoc_ind (M := fun ss => (smSteps c ss).turned = decide (turnsF ss % 2 = 1)) rfl (fun us s ih => ?_) ss
  rw [smSteps_more]
  have ef : turnsF (us ++ [s]) = turnsF us + (match s with | .turn => 1 | .meet _ _ => 0) := by
    unfold turnsF
    rw [List.filter_append, List.length_append]
    cases s <;> rfl
  rw [ef]
  cases s with
  | turn =>
    show (!(smSteps c us).turned) = _
    rw [ih]
    by_cases q : turnsF us % 2 = 1
    · rw [decide_eq_true q, decide_eq_false (by simp only; omega)]
      rfl
    · rw [decide_eq_false q, decide_eq_true (by simp only; omega)]
      rfl
  | meet b z =>
    have et : (smStep c (smSteps c us) (.meet b z)).turned = (smSteps c us).turned := by
      unfold smStep
      cases (smSteps c us).goal <;> rfl
    rw [et, ih]
    rfl
end Cc

/-! The play of steps one by one; three more rules. -/
namespace Cc
open PySem PySem.Spec PyProof.Rows L2
def carryF (c : Int) : List Stp → Int → List Int
  | [], _ => []
  | s :: ss, r => (stepF c s r).2 :: carryF c ss (stepF c s r).1
theorem stepsF_fst (c : Int) : ∀ (ss : List Stp) (r t u : Int), (stepsF c ss (r, t)).1 = (stepsF c ss (r, u)).1
  | [], _, _, _ => rfl
  | s :: ss, r, t, u => stepsF_fst c ss (stepF c s r).1 _ _
theorem carryF_one (c : Int) (s : Stp) : ∀ (ss : List Stp) (r : Int), carryF c (ss ++ [s]) r = carryF c ss r ++ [(stepF c s (stepsF c ss (r, 0)).1).2]
  | [], r => rfl
  | z :: ss, r => by
    show (stepF c z r).2 :: carryF c (ss ++ [s]) (stepF c z r).1 = (stepF c z r).2 :: (carryF c ss (stepF c z r).1 ++ [(stepF c s (stepsF c ss ((stepF c z r).1, 0 + (stepF c z r).2)).1).2])
    rw [carryF_one c s ss (stepF c z r).1, stepsF_fst c ss (stepF c z r).1 0 (0 + (stepF c z r).2)]
theorem carryF_len (c : Int) : ∀ (ss : List Stp) (r : Int), (carryF c ss r).length = ss.length
  | [], _ => rfl
  | s :: ss, r => by
    show (carryF c ss (stepF c s r).1).length + 1 = ss.length + 1
    rw [carryF_len c ss]
theorem carryF_sum (c : Int) : ∀ (ss : List Stp) (r : Int), (carryF c ss r).sum = (stepsF c ss (r, 0)).2
  | [], _ => rfl
  | s :: ss, r => by
    show ((stepF c s r).2 :: carryF c ss (stepF c s r).1).sum = (stepsF c ss ((stepF c s r).1, 0 + (stepF c s r).2)).2
    rw [List.sum_cons, carryF_sum c ss, stepsF_add c ss (stepF c s r).1 (0 + (stepF c s r).2), Int.zero_add]
theorem nuMax3_int (a b z : Int) : nuMax3 (.int a) (.int b) (.int z) = some (.int (if (if a < b then b else a) < z then z else (if a < b then b else a))) := by
  by_cases h : a < b
  · by_cases h2 : b < z <;> simp [nuMax3, nuMax2, nuLt, nuCB, h, h2]
  · by_cases h2 : a < z <;> simp [nuMax3, nuMax2, nuLt, nuCB, h, h2]
/-- a <= b <= c <= d, a test -/
def tChain3 (r1 r2 r3 : R2) (ta tb tc td : TE) : TT := fun σ H Q => ta σ H fun x H1 => tb σ H1 fun y H2 => r1 x y H2 fun z H3 => ∃ k, z = .bl k ∧
  (if k = true then tc σ H3 fun x2 H4 => r2 y x2 H4 fun z2 H5 => ∃ k2, z2 = .bl k2 ∧ (if k2 = true then td σ H5 fun x3 H6 => r3 x2 x3 H6 fun z3 H7 => ∃ k3, z3 = .bl k3 ∧ Q k3 H7 else Q false H5) else Q false H3)
section
variable {X : Cx} {a b c d : Expr} {ta tb tc td : TE} {pos : Pos}
theorem pt_chain3 {o1 o2 o3 : CmpOp} {r1 r2 r3 : R2} (h1 : OpR X (compareOp o1) r1) (h2 : OpR X (compareOp o2) r2) (h3 : OpR X (compareOp o3) r3) (ha : PE X a ta) (hb : PE X b tb) (hc : PE X c tc) (hd : PE X d td)
    (hm : lastMarks [o1, o2, o3] [b, c, d] = false := by with_unfolding_all rfl) : PT X (.Compare a [o1, o2, o3] [b, c, d] pos) (tChain3 r1 r2 r3 ta tb tc td) := by
  refine ⟨fun pn s sg Hh Qq J h => isTrue_chain ?_ hm⟩
  refine thn (ha.run pn s sg Hh _ J h) fun v1 z1 ⟨x1, G1, J1, e1, p1⟩ => test_link ?_
  refine thn (hb.run pn z1 sg G1 _ J1 p1) fun v2 z2 ⟨x2, G2, J2, e2, p2⟩ => ?_
  refine thn (h1 pn z2 sg G2 x1 x2 v1 v2 _ J2 e1 e2 p2) fun v3 z3 ⟨y1, G3, J3, e3, k1, f1, p3⟩ => ?_
  subst f1
  cases e3
  refine wpAny_truthy_bool ?_
  cases k1 with
  | false => exact ite_ff ⟨G3, J3, p3⟩
  | true =>
    refine ite_tt (test_link ?_)
    refine thn (hc.run pn z3 sg G3 _ J3 p3) fun v4 z4 ⟨x3, G4, J4, e4, p4⟩ => ?_
    refine thn (h2 pn z4 sg G4 x2 x3 v2 v4 _ J4 e2 e4 p4) fun v5 z5 ⟨y2, G5, J5, e5, k2, f2, p5⟩ => ?_
    subst f2
    cases e5
    refine wpAny_truthy_bool ?_
    cases k2 with
    | false => exact ite_ff ⟨G5, J5, p5⟩
    | true =>
      refine ite_tt (test_last ?_)
      refine thn (hd.run pn z5 sg G5 _ J5 p5) fun v6 z6 ⟨x4, G6, J6, e6, p6⟩ => ?_
      refine thn (h3 pn z6 sg G6 x3 x4 v4 v6 _ J6 e4 e6 p6) fun v7 z7 ⟨y3, G7, J7, e7, k3, f3, p7⟩ => ?_
      subst f3
      cases e7
      exact wpAny_truthy_bool ⟨G7, J7, p7⟩
end
end Cc

/-! Many rounds: pairs of rounds are alike from the third on; the steps of all rounds one after another. -/
namespace Cc
open PySem PySem.Spec PyProof.Rows L2
theorem roundsF_plus (c : Int) (ss : List Stp) : ∀ (m n : Nat) (x : Int × Int), roundsF c ss (m + n) x = roundsF c ss n (roundsF c ss m x)
  | 0, n, x => by
    rw [Nat.zero_add]
    rfl
  | m + 1, n, x => by
    rw [Nat.succ_add]
    exact roundsF_plus c ss m n (stepsF c ss x)
theorem roundsF_sum (c : Int) (ss : List Stp) : ∀ (n : Nat) (r t : Int), roundsF c ss n (r, t) = ((roundsF c ss n (r, 0)).1, t + (roundsF c ss n (r, 0)).2)
  | 0, r, t => by
    show (r, t) = (r, t + 0)
    rw [Int.add_zero]
  | n + 1, r, t => by
    rw [roundsF_succ, roundsF_succ, roundsF_sum c ss n r t, stepsF_add c ss _ (t + _), stepsF_add c ss _ (roundsF c ss n (r, 0)).2]
    simp only [Prod.mk.injEq, true_and]
    omega
theorem pair_is (c : Int) (ss : List Stp) (x : Int × Int) : stepsF c (ss ++ ss) x = roundsF c ss 2 x := stepsF_app c ss ss x
theorem turnsF_pair (ss : List Stp) : turnsF (ss ++ ss) % 2 = 0 := by
  unfold turnsF
  rw [List.filter_append, List.length_append]
  omega
/-- a pair of rounds, done again, leaves the room as it is -/
theorem pair_twice {c x : Int} {ss : List Stp} (hs : ∀ s ∈ ss, s.ok c) (x0 : 0 ≤ x) (x1 : x ≤ c) : (stepsF c (ss ++ ss) ((stepsF c (ss ++ ss) (x, 0)).1, 0)).1 = (stepsF c (ss ++ ss) (x, 0)).1 := by
  have hp : ∀ s ∈ ss ++ ss, s.ok c := fun s h => (List.mem_append.mp h).elim (hs s) (hs s)
  obtain ⟨y0, y1, _⟩ := stepsF_in (t := 0) hp x0 x1 (Int.le_refl 0)
  obtain ⟨ok, _, e1⟩ := smSteps_says x0 x1 (ss ++ ss) hp
  obtain ⟨_, _, e2⟩ := smSteps_says y0 y1 (ss ++ ss) hp
  have ht : (smSteps c (ss ++ ss)).turned = false := by
    rw [turned_is, turnsF_pair]
    rfl
  rw [ht] at e1 e2
  generalize (stepsF c (ss ++ ss) ((stepsF c (ss ++ ss) (x, 0)).1, 0)).1 = z at *
  generalize (stepsF c (ss ++ ss) (x, 0)).1 = y at *
  generalize smSteps c (ss ++ ss) = m at *
  obtain ⟨low, high, extra, goal, turned⟩ := m
  have lh := ok.lh
  simp only at e1 e2 lh
  cases goal with
  | none =>
    simp [placeF, sideF, clampF] at e1 e2
    omega
  | some g =>
    simp [placeF, sideF] at e1 e2
    omega
/-- from a number that a pair leaves: p pairs -/
theorem pairs_all {c y : Int} {ss : List Stp} (h : (stepsF c (ss ++ ss) (y, 0)).1 = y) : ∀ p : Nat, roundsF c ss (2 * p) (y, 0) = (y, p * (stepsF c (ss ++ ss) (y, 0)).2)
  | 0 => by
    show (y, 0) = (y, ((0 : Nat) : Int) * _)
    simp
  | p + 1 => by
    have e : 2 * (p + 1) = 2 * p + 2 := by omega
    rw [e, roundsF_plus, pairs_all h p, ← pair_is, stepsF_add, h]
    simp only [Prod.mk.injEq, true_and]
    rw [Int.natCast_succ, Int.add_mul, Int.one_mul]
theorem rounds_fix {c r : Int} {ss : List Stp} (hs : ∀ s ∈ ss, s.ok c) (r0 : 0 ≤ r) (r1 : r ≤ c) (m : Nat) : (stepsF c (ss ++ ss) ((roundsF c ss (m + 2) (r, 0)).1, 0)).1 = (roundsF c ss (m + 2) (r, 0)).1 := by
  obtain ⟨a0, a1, _⟩ := roundsF_in (n := m) (t := 0) hs r0 r1 (Int.le_refl 0)
  have e : (roundsF c ss (m + 2) (r, 0)).1 = (stepsF c (ss ++ ss) ((roundsF c ss m (r, 0)).1, 0)).1 := by
    rw [roundsF_plus, pair_is, roundsF_sum c ss 2 (roundsF c ss m (r, 0)).1 (roundsF c ss m (r, 0)).2]
  rw [e]
  exact pair_twice hs a0 a1
/-- m + 2 rounds, then p pairs -/
theorem rounds_pairs {c r : Int} {ss : List Stp} (hs : ∀ s ∈ ss, s.ok c) (r0 : 0 ≤ r) (r1 : r ≤ c) (m p : Nat) :
    roundsF c ss (m + 2 + 2 * p) (r, 0) = ((roundsF c ss (m + 2) (r, 0)).1, (roundsF c ss (m + 2) (r, 0)).2 + p * (stepsF c (ss ++ ss) ((roundsF c ss (m + 2) (r, 0)).1, 0)).2) := by
  rw [roundsF_plus c ss (m + 2), roundsF_sum c ss (2 * p) (roundsF c ss (m + 2) (r, 0)).1 (roundsF c ss (m + 2) (r, 0)).2, pairs_all (rounds_fix hs r0 r1 m)]
theorem afterF_is {c r : Int} {ss : List Stp} (hs : ∀ s ∈ ss, s.ok c) (r0 : 0 ≤ r) (r1 : r ≤ c) (n : Nat) : afterF c ss r n = roundsF c ss n (r, 0) := rfl
/-- the code's own way: two or three rounds singly, the rest in pairs all alike -/
theorem few_is {c r : Int} {ss : List Stp} (hs : ∀ s ∈ ss, s.ok c) (r0 : 0 ≤ r) (r1 : r ≤ c) {n : Nat} (h : 2 ≤ n) :
    afterF c ss r n = ((stepsF c (ss ++ ss) ((roundsF c ss (2 + n % 2) (r, 0)).1, 0)).1, (roundsF c ss (2 + n % 2) (r, 0)).2 + ((n - (2 + n % 2)) / 2 : Nat) * (stepsF c (ss ++ ss) ((roundsF c ss (2 + n % 2) (r, 0)).1, 0)).2) := by
  have e : n = n % 2 + 2 + 2 * ((n - (2 + n % 2)) / 2) := by omega
  have h1 := rounds_pairs hs r0 r1 (n % 2) ((n - (2 + n % 2)) / 2)
  rw [← e] at h1
  unfold afterF
  rw [h1, Nat.add_comm 2 (n % 2), rounds_fix hs r0 r1]
/-- two parts of the rounds -/
theorem rounds_parts (c : Int) (ss : List Stp) (r : Int) (m n : Nat) : (roundsF c ss (m + n) (r, 0)).1 = (roundsF c ss n ((roundsF c ss m (r, 0)).1, 0)).1 ∧ (roundsF c ss (m + n) (r, 0)).2 = (roundsF c ss m (r, 0)).2 + (roundsF c ss n ((roundsF c ss m (r, 0)).1, 0)).2 := by
  rw [roundsF_plus, roundsF_sum c ss n (roundsF c ss m (r, 0)).1 (roundsF c ss m (r, 0)).2]
  exact ⟨rfl, rfl⟩
/-- each further pair carries what the third and the fourth round carry -/
theorem rounds_even {c r : Int} {ss : List Stp} (hs : ∀ s ∈ ss, s.ok c) (r0 : 0 ≤ r) (r1 : r ≤ c) (p : Nat) :
    (roundsF c ss (2 * p + 2) (r, 0)).2 = (roundsF c ss 2 (r, 0)).2 + p * ((roundsF c ss 4 (r, 0)).2 - (roundsF c ss 2 (r, 0)).2) := by
  have e : 2 * p + 2 = 0 + 2 + 2 * p := by omega
  have h1 := rounds_pairs hs r0 r1 0 p
  have h2 := rounds_pairs hs r0 r1 0 1
  simp only [Nat.zero_add] at h1 h2
  rw [e, Nat.zero_add, h1, show 4 = 2 + 2 * 1 from rfl, h2]
  simp only
  congr 1
  rw [Int.natCast_one, Int.one_mul, Int.add_comm (roundsF c ss 2 (r, 0)).2, Int.add_sub_cancel]
/-! ### the steps of all rounds -/
def cycF (ss : List Stp) (k n : Nat) : List Stp := (List.range n).map fun i => ss.getD ((k + i) % ss.length) .turn
theorem cycF_succ (ss : List Stp) (k n : Nat) : cycF ss k (n + 1) = cycF ss k n ++ [ss.getD ((k + n) % ss.length) .turn] := by
  unfold cycF
  rw [List.range_succ, List.map_append]
  rfl
theorem cycF_len (ss : List Stp) (k n : Nat) : (cycF ss k n).length = n := by
  unfold cycF
  simp only [List.length_range, List.length_map]
theorem getD_in {ss : List Stp} {i : Nat} (h : i < ss.length) : ss.getD i .turn = ss[i] := by simp [List.getD, h]
theorem getD_out {ss : List Stp} {i : Nat} (h : ss.length ≤ i) : ss.getD i .turn = .turn := by simp [List.getD, h]
theorem cycF_ok {c : Int} {ss : List Stp} (hs : ∀ s ∈ ss, s.ok c) (k n : Nat) : ∀ s ∈ cycF ss k n, s.ok c := fun s h => by
  obtain ⟨i, _, rfl⟩ := List.mem_map.mp h
  by_cases q : (k + i) % ss.length < ss.length
  · rw [getD_in q]
    exact hs _ (List.getElem_mem q)
  · rw [getD_out (by omega)]
    trivial
theorem rep_get {ss : List Stp} : ∀ (k i : Nat), i < k * ss.length → (List.replicate k ss).flatten[i]? = some (ss.getD (i % ss.length) .turn)
  | 0, i, h => by omega
  | k + 1, i, h => by
    rw [List.replicate_succ (n := k), List.flatten_cons]
    by_cases q : i < ss.length
    · rw [List.getElem?_append_left q, Nat.mod_eq_of_lt q, List.getElem?_eq_getElem q, getD_in q]
    · have h1 : (k + 1) * ss.length = k * ss.length + ss.length := Nat.succ_mul k ss.length
      rw [List.getElem?_append_right (by omega), rep_get k (i - ss.length) (by omega)]
      congr 2
      rw [Nat.mod_eq_sub_mod (by omega : i ≥ ss.length)]
theorem rep_take {ss : List Stp} {k n : Nat} (h : n ≤ k * ss.length) : ((List.replicate k ss).flatten).take n = cycF ss 0 n := by
  refine List.ext_getElem? fun i => ?_
  by_cases q : i < n
  · rw [List.getElem?_take_of_lt q, rep_get k i (by omega)]
    unfold cycF
    rw [List.getElem?_map, List.getElem?_range q]
    show _ = some (ss.getD ((0 + i) % ss.length) .turn)
    rw [Nat.zero_add]
  · rw [List.getElem?_eq_none (by rw [List.length_take]; omega), List.getElem?_eq_none (by rw [cycF_len]; omega)]
theorem Steps.rep {H : Hp} {vs : List V} {ss : List Stp} (h : Steps H vs ss) : ∀ k : Nat, Steps H (List.replicate k vs).flatten (List.replicate k ss).flatten
  | 0 => .nil
  | k + 1 => by
    simp only [List.replicate_succ, List.flatten_cons]
    exact h.append (Steps.rep h k)
theorem eqv_selfs (ns : List Int) : PyData.eqv (.list (ns.map PyData.int)) (.list (ns.map PyData.int)) = true := by
  have q : ∀ ns : List Int, PyData.eqvAll (ns.map PyData.int) (ns.map PyData.int) = true := fun ns => by
    induction ns with
    | nil => simp [PyData.eqvAll]
    | cons a ns ih => simp [PyData.eqvAll, PyData.eqv, ih]
  simp [PyData.eqv, q ns]
end Cc

/-! A rule of our own: a set of ints by two clauses, {e for a in xs for b in ys if t}. -/
namespace Cc
open PySem PySem.Spec PyProof.Rows L2
/-- the comprehension: the first clause has no test -/
abbrev scE (el ta ia tb ib : Expr) (fb : List Expr) (sc : Scope) (ps : Pos) : Expr := .SetComp el [⟨ta, ia, [], 0⟩, ⟨tb, ib, fb, 0⟩] sc ps
section
variable {pr : Program} {ww : World} {A : Around} {R : Result → Shared → Prop} {st : Shared} {el ta ia tb ib : Expr} {fb : List Expr} {sc : Scope} {ps : Pos} {it ac : Value} {en : Env}
theorem noX {α : Type} {M : Model} {t : Sem α} {G : α → Shared → Prop} {E : Value → Shared → Prop} (h : wpAny M A t G (fun _ _ => False) st) : wpAny M A t G E st := wpAny_mono h (fun _ _ q => q) fun _ _ q => q.elim
theorem sc_outer (hf : ∀ x, foldedSetIterable ib en x = pure x) (J : Nat → Shared → Prop)
    (go : ∀ n z, J n z → wpAny (model pr ww) A (pyNext it) (fun r z1 => match r with
      | none => R (.ok .next) z1
      | some v => wpAny (model pr ww) A (letOwnedTupleGo ta it v) (fun _ z2 => wpAny (model pr ww) A (assign ta en v) (fun _ z3 => wpAny (model pr ww) A (eval ib en) (fun x z4 => wpAny (model pr ww) A (pyIter x) (fun i2 z5 =>
          codeAny (model pr ww) A (.compStart (scE el ta ia tb ib fb sc ps) 1 i2 ac en) (fun r z6 => match r with | .ok _ => ∃ m, m < n ∧ J m z6 | .error _ => False) z5)
          (fun _ _ => False) z4) (fun _ _ => False) z3) (fun _ _ => False) z2) (fun _ _ => False) z1) (fun _ _ => False) z) (n : Nat) (h : J n st) :
    codeAny (model pr ww) A (.compLoop (scE el ta ia tb ib fb sc ps) 0 it ac en) R st := by
  refine codeAny_loop rfl J (fun n z hz => ?_) n h
  show wpAny _ A ((compTurn (scE el ta ia tb ib fb sc ps) 0 it ac en).onRaise (fun x => do noteFrame x en; theTreesLotGoes x)) _ _ z
  refine wpAny_noted ?_
  have tree : compTurn (scE el ta ia tb ib fb sc ps) 0 it ac en = (do
      standAt ia.pos
      match ← pyNext it with
      | none => pure (.done .next)
      | some v =>
        letOwnedTupleGo ta it v
        assign ta en v
        let mut good := true
        for c in ([] : List Expr) do
          if good then good ← isTrue c en (eval c en)
        if good then
          let x ← eval ib en
          standAt ib.pos
          let x ← foldedSetIterable ib en x
          let _ ← runOwn (.compStart (scE el ta ia tb ib fb sc ps) 1 (← holding [x] (pyIter x)) ac en) en
        again (.compLoop (scE el ta ia tb ib fb sc ps) 0 it ac en)) := by rfl
  rw [tree]
  refine wpAny_bind (wpAny_standAt (wpAny_bind (wpAny_mono (go n z hz) (fun r z1 h1 => ?_) fun _ _ q => q.elim)))
  cases r with
  | none => exact wpAny_pure h1
  | some v =>
    refine wpAny_bind (wpAny_mono h1 (fun _ z2 h2 => wpAny_bind (wpAny_mono h2 (fun _ z3 h3 => ?_) fun _ _ q => q.elim)) fun _ _ q => q.elim)
    refine wpAny_bind (wpAny_of_eq (a := true) (by rfl) ?_)
    refine wpAny_bind (wpAny_mono h3 (fun x z4 h4 => ?_) fun _ _ q => q.elim)
    refine wpAny_bind (wpAny_standAt (wpAny_bind (wpAny_of_eq (hf x) (wpAny_bind (wpAny_holding (wpAny_mono h4 (fun i2 z5 h5 => ?_) fun _ _ q => q.elim))))))
    refine wpAny_bind (wpAny_runOwn (M := model pr ww) ?_)
    rw [Around.mark_none]
    refine codeAny_mono h5 fun r z6 h6 => ?_
    cases r with
    | error e => exact h6.elim
    | ok f => first
      | exact wpAny_pure ⟨rfl, h6⟩
      | exact wpAny_bind (wpAny_pure (wpAny_pure ⟨rfl, h6⟩))
theorem sc_inner (J : Nat → Shared → Prop)
    (go : ∀ n z, J n z → wpAny (model pr ww) A (pyNext it) (fun r z1 => match r with
      | none => R (.ok .next) z1
      | some v => wpAny (model pr ww) A (letOwnedTupleGo tb it v) (fun _ z2 => wpAny (model pr ww) A (assign tb en v) (fun _ z3 =>
          wpAny (model pr ww) A (forIn fb true fun c r => if r = true then do let ok ← isTrue c en (eval c en); pure (ForInStep.yield ok) else pure (ForInStep.yield r)) (fun good z4 =>
            if good = true then wpAny (model pr ww) A (eval el en) (fun x z5 => wpAny (model pr ww) A (call (.builtin "set.add") [ac, x]) (fun _ z6 => ∃ m, m < n ∧ J m z6) (fun _ _ => False) z5) (fun _ _ => False) z4
            else ∃ m, m < n ∧ J m z4) (fun _ _ => False) z3) (fun _ _ => False) z2) (fun _ _ => False) z1) (fun _ _ => False) z) (n : Nat) (h : J n st) :
    codeAny (model pr ww) A (.compLoop (scE el ta ia tb ib fb sc ps) 1 it ac en) R st := by
  refine codeAny_loop rfl J (fun n z hz => ?_) n h
  show wpAny _ A ((compTurn (scE el ta ia tb ib fb sc ps) 1 it ac en).onRaise (fun x => do noteFrame x en; theTreesLotGoes x)) _ _ z
  refine wpAny_noted ?_
  have tree : compTurn (scE el ta ia tb ib fb sc ps) 1 it ac en = (do
      standAt ib.pos
      match ← pyNext it with
      | none => pure (.done .next)
      | some v =>
        letOwnedTupleGo tb it v
        assign tb en v
        let mut good := true
        for c in fb do
          if good then good ← isTrue c en (eval c en)
        if good then
          (do let v ← eval el en; standAt el.pos; let _ ← call (.builtin "set.add") [ac, v])
        again (.compLoop (scE el ta ia tb ib fb sc ps) 1 it ac en)) := by rfl
  rw [tree]
  refine wpAny_bind (wpAny_standAt (wpAny_bind (wpAny_mono (go n z hz) (fun r z1 h1 => ?_) fun _ _ q => q.elim)))
  cases r with
  | none => exact wpAny_pure h1
  | some v =>
    refine wpAny_bind (wpAny_mono h1 (fun _ z2 h2 => wpAny_bind (wpAny_mono h2 (fun _ z3 h3 => ?_) fun _ _ q => q.elim)) fun _ _ q => q.elim)
    refine wpAny_bind (wpAny_mono h3 (fun good z4 h4 => ?_) fun _ _ q => q.elim)
    cases good with
    | false => exact wpAny_pure ⟨rfl, h4⟩
    | true => exact wpAny_bind (wpAny_bind (wpAny_mono h4 (fun x z5 h5 => wpAny_bind (wpAny_standAt (wpAny_bind (wpAny_mono h5 (fun _ z6 h6 => wpAny_pure (wpAny_pure ⟨rfl, h6⟩)) fun _ _ q => q.elim)))) fun _ _ q => q.elim))
/-- the second clause begins -/
theorem sc_begin (h0 : codeAny (model pr ww) A (.compLoop (scE el ta ia tb ib fb sc ps) 1 it ac en) R st)
    (h : wpAny (model pr ww) A (pyIter it) (fun i2 z => codeAny (model pr ww) A (.compLoop (scE el ta ia tb ib fb sc ps) 1 i2 ac en) R z) (fun _ _ => False) st) :
    codeAny (model pr ww) A (.compStart (scE el ta ia tb ib fb sc ps) 1 it ac en) R st := by
  refine codeAny_of_tree ?_
  show wpAny _ _ ((compStart (scE el ta ia tb ib fb sc ps) 1 it ac en).onRaise (fun x => do noteFrame x en; standAt theWindowsPlace)) _ _ st
  refine wpAny_notedAt ?_
  unfold compStart
  show wpAny _ _ (ask >>= _) _ _ st
  apply wpAny_bind; refine wpAny_askSetting (wpAny_ite ?_)
  split
  · first
      | exact wpAny_pure ⟨rfl, h0⟩
      | exact wpAny_bind (wpAny_pure (wpAny_pure ⟨rfl, h0⟩))
  · apply wpAny_bind; refine wpAny_rule ?_
    show wpAny _ _ (standAt ib.pos >>= _) _ _ st
    exact wpAny_bind (wpAny_standAt (wpAny_bind (wpAny_mono h (fun i2 z q => wpAny_pure ⟨rfl, q⟩) fun _ _ q => q.elim)))
end
/-- its reading: D the new set; behind the first clause's store the second source's own loop, from which Nx is reached -/
def tSc2 (w : World) (wi : TI) (g : TG) (wi1 : TI) (g1 : TG) (tt1 : TT) (te : TE) (vs vs1 : List Nat) : TE := fun sg G Q => wi sg G fun J G1 => ∀ D, G1 D = none →
  ∃ W : Nat → Nat → Hp → Prop, (∃ m, W 0 m (upd G1 D (SetO w D (fun _ => false) 0))) ∧ ∀ i m G, W i m G →
    (J.stop i G ∧ Q (.ref D) G) ∨ (J.go i G ∧ ∃ Nx : Hp → Prop, (∀ G', Nx G' → ∃ m', m' < m ∧ W (i + 1) m' G') ∧ ∀ x G', J.yld i G x G' →
      g x (wipe sg vs) G' fun sg2 G2 => wipe sg2 vs = wipe sg vs ∧ wi1 sg2 G2 fun J1 G3 => ∃ W1 : Nat → Nat → Hp → Prop, (∃ m, W1 0 m G3) ∧ ∀ j k G, W1 j k G →
        (J1.stop j G ∧ Nx G) ∨ (J1.go j G ∧ ∃ Ny : Hp → Prop, (∀ G', Ny G' → ∃ k', k' < k ∧ W1 (j + 1) k' G') ∧ ∀ x G', J1.yld j G x G' →
          g1 x (wipe sg2 vs1) G' fun sg3 G4 => wipe sg3 vs1 = wipe sg2 vs1 ∧ tt1 sg3 G4 fun b G5 =>
            if b = true then te sg3 G5 fun y G6 => ∃ (c : Int) (S : Int → Bool) (n : Nat), y = .int c ∧ G6 D = some (SetO w D S n) ∧ n + 1 < scanBound ∧ Ny (upd G6 D (SetO w D (fun j => S j || decide (j = c)) (if S c = true then n else n + 1))) else Ny G5))
section
variable {X : Cx}
theorem pe_sc2 {el ta ia tb ib : Expr} {fb : List Expr} {sc : Scope} {own : List (Str × Nat)} {vs1 : List Nat} {ps : Pos} {wi wi1 : TI} {g g1 : TG} {tt1 : TT} {te : TE} (hc : X.calm = true) (hN : X.N.Nodup) (hi : PI X ta ia wi) (ok : BlkOk X.N X.env.scope sc own) (hv : ∀ i ∈ vs1, i ∈ own.map (·.2))
    (hg : ∀ (s : Shared) (H : Hp) (C : Addr) (cl : List (Str × Addr)) (fp : List Addr), PG (X.blk s H sc (compEnvC sc cl C X.env) fp) ta g)
    (hi1 : ∀ (s : Shared) (H : Hp) (C : Addr) (cl : List (Str × Addr)) (fp : List Addr), PI (X.blk s H sc (compEnvC sc cl C X.env) fp) tb ib wi1)
    (hg1 : ∀ (s : Shared) (H : Hp) (C : Addr) (cl : List (Str × Addr)) (fp : List Addr), PG (X.blk s H sc (compEnvC sc cl C X.env) fp) tb g1)
    (ht1 : ∀ (s : Shared) (H : Hp) (C : Addr) (cl : List (Str × Addr)) (fp : List Addr), PTs (X.blk s H sc (compEnvC sc cl C X.env) fp) fb tt1)
    (he : ∀ (s : Shared) (H : Hp) (C : Addr) (cl : List (Str × Addr)) (fp : List Addr), PE (X.blk s H sc (compEnvC sc cl C X.env) fp) el te)
    (hs : ∀ x, foldedSetIterable ia X.env x = pure x := by intro _; rfl) (hs1 : ∀ env x, foldedSetIterable ib env x = pure x := by intro _ _; rfl) :
    PE X (scE el ta ia tb ib fb sc ps) (tSc2 X.w wi g wi1 g1 tt1 te (own.map (·.2)) vs1) := by
  refine ⟨fun pz z0 sg G0 Qq K0 h => ?_⟩
  rw [PpSet.eval_SetComp]
  have frees : ∀ y ∈ sc.names, y.2 = .free → ∃ c, X.env.cells.lookup y.1 = some c := fun y hy e => K0.ok.has _ ((ok.free y hy e).elim (fun a => .inl a) fun a => .inr a)
  refine wpAny_comprehension_free (use := none) rfl hs (closure_ok frees) ok.kind (fun y hy e => (ok.uniq y hy).trans (congrArg some e)) (thn (hi.run pz z0 sg G0 _ K0 h) fun _ z1 h1 => thn h1 fun iv z2 h2 => ?_)
  obtain ⟨it, fp, tn, Jt, G2, rfl, K2, T, t2, f2, q⟩ := h2
  refine PpSet.newSet_ok (newEnv_comp ?_)
  -- the new set, at D
  obtain ⟨D, hD⟩ : ∃ D, D = z2.heap.objs.size := ⟨_, rfl⟩
  rw [← hD]
  have freeD : G2 D = none := K2.hok.fresh (Nat.le_of_eq hD.symm)
  obtain ⟨W, ⟨m0, w0⟩, turn⟩ := q D freeD
  obtain ⟨z3, hz3⟩ : ∃ z3 : Shared, z3 = { z2 with heap := z2.heap.push { cls := .type "set", dict := none, data := .set #[] 0 (.fresh 0 0 (!X.w.params.followText "set-order")) } } := ⟨_, rfl⟩
  have p3 : z3.heap = z2.heap.push { cls := .type "set", dict := none, data := .set #[] 0 (.fresh 0 0 (!X.w.params.followText "set-order")) } := by rw [hz3]
  have keep3 : ∀ b o, z2.heap.get? b = some o → z3.heap.get? b = some o := fun b o e => by
    rw [p3]
    exact Heap.get?_push_of_some (h := z2.heap) _ e
  have K3 : Inv X pz sg (upd G2 D (SetO X.w D (fun _ => false) 0)) z3 := by
    rw [hz3]
    exact K2.laid (t' := z2.toks) (fun b o e => Heap.get?_push_of_some _ e) (Nat.le_of_eq hD.symm) (hD ▸ setO_new (setR_fresh X.w))
  have old : ∀ b ∈ fp, b < z2.heap.objs.size := fun b hb => (T.obj _ _ t2 b hb).elim fun _ e => Heap.lt_size e.1
  have f3 : ∀ b ∈ fp, FpOk X pz (upd G2 D (SetO X.w D (fun _ => false) 0)) b ∧ b < z3.heap.objs.size := fun b hb =>
    ⟨⟨by rw [upd_ne (by rw [hD]; exact Nat.ne_of_lt (old b hb))]; exact (f2 b hb).1, (f2 b hb).2⟩, by rw [p3, Heap.size_push]; exact Nat.lt_succ_of_lt (old b hb)⟩
  have K4 := block_start K3 ok hN f3
  have nf : ∀ b ∈ fp, upd G2 D (SetO X.w D (fun _ => false) 0) b = none := fun b hb => (f3 b hb).1.1
  -- the block's context
  have Bg := hg z3 (upd G2 D (SetO X.w D (fun _ => false) 0)) z3.heap.objs.size (cellsFrom (z3.heap.objs.size + 1) sc.names (cloFrom X.env.cells sc.names [])) fp
  have Bi := hi1 z3 (upd G2 D (SetO X.w D (fun _ => false) 0)) z3.heap.objs.size (cellsFrom (z3.heap.objs.size + 1) sc.names (cloFrom X.env.cells sc.names [])) fp
  have Bh := hg1 z3 (upd G2 D (SetO X.w D (fun _ => false) 0)) z3.heap.objs.size (cellsFrom (z3.heap.objs.size + 1) sc.names (cloFrom X.env.cells sc.names [])) fp
  have Bt := ht1 z3 (upd G2 D (SetO X.w D (fun _ => false) 0)) z3.heap.objs.size (cellsFrom (z3.heap.objs.size + 1) sc.names (cloFrom X.env.cells sc.names [])) fp
  have Be := he z3 (upd G2 D (SetO X.w D (fun _ => false) 0)) z3.heap.objs.size (cellsFrom (z3.heap.objs.size + 1) sc.names (cloFrom X.env.cells sc.names [])) fp
  have goal : codeAny (model X.prog X.w) X.A (.compStart (scE el ta ia tb ib fb sc ps) 0 (.ref it) (.ref D) (compEnvC sc (cellsFrom (z3.heap.objs.size + 1) sc.names (cloFrom X.env.cells sc.names [])) z3.heap.objs.size X.env))
      (compPost (model X.prog X.w) X.A X.xe none (EP X pz sg Qq) (.ref D) z3.heap.objs.size) { z3 with heap := pushCells (z3.heap.push { cls := .type "dict", data := .dict #[] }) sc.names } := by
    obtain ⟨ce, hce⟩ : ∃ ce, ce = compEnvC sc (cellsFrom (z3.heap.objs.size + 1) sc.names (cloFrom X.env.cells sc.names [])) z3.heap.objs.size X.env := ⟨_, rfl⟩
    rw [← hce] at K4 Bg Bi Bh Bt Be ⊢
    have lc : ce.locals = z3.heap.objs.size := by rw [hce]; rfl
    obtain ⟨G3, hG3⟩ : ∃ G3, G3 = upd G2 D (SetO X.w D (fun _ => false) 0) := ⟨_, rfl⟩
    rw [← hG3] at K3 K4 Bg Bi Bh Bt Be w0 f3
    have nf3 : ∀ b ∈ fp, G3 b = none := fun b hb => (f3 b hb).1.1
    obtain ⟨z4, hz4⟩ : ∃ z4 : Shared, z4 = { z3 with heap := pushCells (z3.heap.push { cls := .type "dict", data := .dict #[] }) sc.names } := ⟨_, rfl⟩
    rw [← hz4] at K4 ⊢
    have t4 : tn 0 z4.heap := T.keep _ _ _ t2 fun b _ o e => by
      rw [hz4]
      exact pushCells_keeps _ _ _ _ (Heap.get?_push_of_some _ (keep3 b o e))
    -- the iterator's objects stay untracked
    have fpk : ∀ {sg' : L2.St} {G' : Hp} {z' : Shared}, Inv (X.blk z3 G3 sc ce fp) [] sg' G' z' → (∀ b ∈ fp, G' b = none) → ∀ b ∈ fp, FpOk (X.blk z3 G3 sc ce fp) [] G' b := fun Kk hn b hb =>
      ⟨hn b hb, (Kk.ok.exf b hb).1, Kk.ok.exfs b hb, .inl hb, fun x c e => (Kk.ok.exf b hb).2 x c e, fun p hp => by simp at hp⟩
    have loop : codeAny (model X.prog X.w) X.A (.compLoop (scE el ta ia tb ib fb sc ps) 0 (.ref it) (.ref D) ce) (compPost (model X.prog X.w) X.A X.xe none (EP X pz sg Qq) (.ref D) z3.heap.objs.size) z4 := by
      refine sc_outer (hs1 ce) (fun n z => ∃ i G, Inv (X.blk z3 G3 sc ce fp) [] (wipe sg (own.map (·.2))) G z ∧ tn i z.heap ∧ (∀ b ∈ fp, G b = none) ∧ W i n G) ?_ m0 ⟨0, G3, K4, t4, nf3, w0⟩
      rintro n z5 ⟨i, G5, K5, t5, n5, w5⟩
      rcases turn i n G5 w5 with ⟨halt, qq⟩ | ⟨go, Nx, hNx, step⟩
      · refine thnF (T.done (X.blk z3 G3 sc ce fp) rfl rfl rfl hc i [] z5 _ G5 (fun _ _ => False) K5 (fpk K5 n5) t5 halt) fun r z6 ⟨hr, K6⟩ => ?_
        subst hr
        have K7 : Inv X pz sg G5 z6 := K3.call' (ch := fp) K6.os K6.base K6.hok K6.bare fun b hb => ⟨(f3 b hb).1.2.2.2.1, (f3 b hb).1.2.1, (f3 b hb).1.2.2.2.2.1, (f3 b hb).1.2.2.2.2.2⟩
        have nC : G5 z3.heap.objs.size = none := lc ▸ (show G5 ce.locals = none from K6.free)
        obtain ⟨m, hm, _⟩ := K6.loc
        have ff := K3.fpOk (Nat.le_refl _) nC
        refine ⟨m, lc ▸ (show z6.heap.Ns ce.locals m from hm), fun h'' sb => ?_⟩
        obtain ⟨a0, a1, _, a3, a4, a5⟩ := ff
        exact ⟨.ref D, G5, K7.turned (t' := z6.toks) (fun b o hb e => (sb.2 b hb).trans e) a0 a1 a3 a4 a5, rfl, qq⟩
      · refine thnF (T.item (X.blk z3 G3 sc ce fp) rfl rfl rfl hc i [] z5 _ G5 (fun _ _ => False) K5 (fpk K5 n5) t5 go) fun r z6 ⟨u, hr, h6⟩ => ?_
        subst hr
        refine thnF h6 fun _ z7 ⟨x, G7, K7, r7, y7, t7, n7⟩ => ?_
        refine thnF (Bg.run _ z7 _ G7 x u _ (K7.pinned (fpk K7 n7) (T.obj _ _ t7)) r7 (step x G7 y7)) fun _ z8 ⟨sg8, G8, K8, w8, q8⟩ => ?_
        have len8 : (wipe sg (own.map (·.2))).length = sg8.length := by rw [← w8, wipe_length]
        -- the turn's end
        have fin : ∀ {z' : Shared} {G' : Hp}, Inv (X.blk z3 G3 sc ce fp) ([] ++ pinsAt fp z7.heap) (wipe sg8 vs1) G' z' → Nx G' → ∃ m, m < n ∧ ∃ i G, Inv (X.blk z3 G3 sc ce fp) [] (wipe sg (own.map (·.2))) G z' ∧ tn i z'.heap ∧ (∀ b ∈ fp, G b = none) ∧ W i m G := fun {z' G'} Kk nx => by
          obtain ⟨m', lt, w'⟩ := hNx G' nx
          have pin : ∀ b ∈ fp, ∀ o, z7.heap.get? b = some o → z'.heap.get? b = some o ∧ G' b = none := fun b hb o e =>
            let y := Kk.pin (b, o) (List.mem_append_right _ (List.mem_append_right _ (mem_pinsAt hb e)))
            ⟨y.1, y.2.1⟩
          refine ⟨m', lt, i + 1, G', (Kk.unpinned (pins := [])).weak (by rw [len8, wipe_length]) (fun j v e => ?_), T.keep _ _ _ t7 fun b hb o e => (pin b hb o e).1, fun b hb => ?_, w'⟩
          · rw [← w8] at e
            obtain ⟨e1, e2⟩ := wipe_some (σ := sg8) e
            rw [wipe_out fun y => e2 (hv j y)]
            exact e1
          · obtain ⟨o, e, _⟩ := T.obj _ _ t7 b hb
            exact (pin b hb o e).2
        refine thnF (Bi.run _ z8 sg8 G8 _ K8 q8) fun _ z9 h9 => thnF h9 fun iw z10 h10 => ?_
        obtain ⟨it1, fp1, tn1, J1, G10, rfl, K10, T1, t10, f10, W1, ⟨m1, w1⟩, turn1⟩ := h10
        have fpk1 : ∀ {G' : Hp}, (∀ b ∈ fp1, G' b = none) → ∀ b ∈ fp1, FpOk (X.blk z3 G3 sc ce fp) ([] ++ pinsAt fp z7.heap) G' b := fun hn b hb => ⟨hn b hb, (f10 b hb).2⟩
        have loop1 : codeAny (model X.prog X.w) X.A (.compLoop (scE el ta ia tb ib fb sc ps) 1 (.ref it1) (.ref D) ce)
            (fun r z' => match r with | .ok _ => ∃ m, m < n ∧ ∃ i G, Inv (X.blk z3 G3 sc ce fp) [] (wipe sg (own.map (·.2))) G z' ∧ tn i z'.heap ∧ (∀ b ∈ fp, G b = none) ∧ W i m G | .error _ => False) z10 := by
          refine sc_inner (fun k z => ∃ j G, Inv (X.blk z3 G3 sc ce fp) ([] ++ pinsAt fp z7.heap) (wipe sg8 vs1) G z ∧ tn1 j z.heap ∧ (∀ b ∈ fp1, G b = none) ∧ W1 j k G) ?_ m1 ⟨0, G10, K10.weak (wipe_length _ _) (fun j v e => (wipe_some e).1), t10, fun b hb => (f10 b hb).1, w1⟩
          rintro k z11 ⟨j, G11, K11, t11, n11, w11⟩
          rcases turn1 j k G11 w11 with ⟨halt1, nx1⟩ | ⟨go1, Ny, hNy, step1⟩
          · refine thnF (T1.done (X.blk z3 G3 sc ce fp) rfl rfl rfl hc j _ z11 (wipe sg8 vs1) G11 (fun _ _ => False) K11 (fpk1 n11) t11 halt1) fun r z12 ⟨hr, K12⟩ => ?_
            subst hr
            exact fin K12 nx1
          · refine thnF (T1.item (X.blk z3 G3 sc ce fp) rfl rfl rfl hc j _ z11 (wipe sg8 vs1) G11 (fun _ _ => False) K11 (fpk1 n11) t11 go1) fun r z12 ⟨u1, hr, h12⟩ => ?_
            subst hr
            refine thnF h12 fun _ z13 ⟨x1, G13, K13, r13, y13, t13, n13⟩ => ?_
            refine thnF (Bh.run _ z13 (wipe sg8 vs1) G13 x1 u1 _ (K13.pinned (fpk1 n13) (T1.obj _ _ t13)) r13 (step1 x1 G13 y13)) fun _ z14 ⟨sg14, G14, K14, w14, q14⟩ => ?_
            refine thnF (Bt.run _ z14 sg14 G14 _ K14 q14) fun b z15 ⟨G15, K15, q15⟩ => ?_
            have fin1 : ∀ {z' : Shared} {G' : Hp}, Inv (X.blk z3 G3 sc ce fp) (([] ++ pinsAt fp z7.heap) ++ pinsAt fp1 z13.heap) sg14 G' z' → Ny G' → ∃ m, m < k ∧ ∃ j G, Inv (X.blk z3 G3 sc ce fp) ([] ++ pinsAt fp z7.heap) (wipe sg8 vs1) G z' ∧ tn1 j z'.heap ∧ (∀ b ∈ fp1, G b = none) ∧ W1 j m G := fun {z' G'} Kk nx => by
              obtain ⟨m', lt, w'⟩ := hNy G' nx
              have pin : ∀ b ∈ fp1, ∀ o, z13.heap.get? b = some o → z'.heap.get? b = some o ∧ G' b = none := fun b hb o e =>
                let y := Kk.pin (b, o) (List.mem_append_right _ (List.mem_append_right _ (mem_pinsAt hb e)))
                ⟨y.1, y.2.1⟩
              refine ⟨m', lt, j + 1, G', Kk.unpinned.weak (by rw [← w14, wipe_length]) (fun j v e => by rw [← w14] at e; exact (wipe_some e).1), T1.keep _ _ _ t13 fun b hb o e => (pin b hb o e).1, fun b hb => ?_, w'⟩
              obtain ⟨o, e, _⟩ := T1.obj _ _ t13 b hb
              exact (pin b hb o e).2
            cases b with
            | false =>
              simp only [Bool.false_eq_true, if_false] at q15 ⊢
              exact fin1 K15 q15
            | true =>
              simp only [if_true] at q15 ⊢
              refine thnF (Be.run _ z15 sg14 G15 _ K15 q15) fun v z16 ⟨y, G16, K16, r16, c, S, nn, ey, hS, hroom, nx⟩ => ?_
              subst ey
              refine wpAny_mono (((mt_sadd (X := X.blk z3 G3 sc ce fp)) _ z16 sg14 G16 (.ref D) [.int c] (.ref D) [v] (fun _ G' => Ny G') K16 rfl (.cons r16 .nil) ⟨D, c, S, nn, rfl, rfl, hS, hroom, nx⟩)) (fun _ z17 ⟨_, G17, K17, _, q17⟩ => fin1 K17 q17) fun _ _ q => q
        exact sc_begin loop1 (T1.self X.A 0 _ _ _ t10 loop1)
    exact PpSet.codeAny_compStart_set loop (T.self X.A 0 _ _ _ t4 loop)
  exact hz3 ▸ goal
end
end Cc

/-! The first start at which two plans differ is a telling one. -/
namespace Cc
open PySem PySem.Spec PyProof.Rows L2
/-- what a plan leaves and carries from x -/
abbrev outF (c : Int) (ss : List Stp) (x : Int) : Int × Int := stepsF c ss (x, 0)
theorem smEnd_ends (m : Sm) : (smEnd m).low = m.low ∧ (smEnd m).high = m.high := by
  unfold smEnd
  split <;> exact ⟨rfl, rfl⟩
theorem dist_even {lo hi x : Int} (h : lo ≤ hi) (h1 : x ≠ lo) (h2 : x ≠ lo + 1) (h3 : x ≠ hi) (h4 : x ≠ hi + 1) : distF lo hi x = 2 * distF lo hi (x - 1) - distF lo hi (x - 2) ∧ clampF lo hi x = 2 * clampF lo hi (x - 1) - clampF lo hi (x - 2) := by
  unfold distF clampF
  constructor <;> omega
/-- off the ends both numbers go on evenly -/
theorem out_even {c x : Int} {ss : List Stp} (hs : ∀ s ∈ ss, s.ok c) (x2 : 2 ≤ x) (x1 : x ≤ c) (h1 : x ≠ (smSteps c ss).low) (h2 : x ≠ (smSteps c ss).low + 1) (h3 : x ≠ (smSteps c ss).high) (h4 : x ≠ (smSteps c ss).high + 1) :
    (outF c ss x).1 = 2 * (outF c ss (x - 1)).1 - (outF c ss (x - 2)).1 ∧ (outF c ss x).2 = 2 * (outF c ss (x - 1)).2 - (outF c ss (x - 2)).2 := by
  obtain ⟨ok, a1, a2⟩ := smSteps_says (c := c) (x := x) (by omega) x1 ss hs
  obtain ⟨_, b1, b2⟩ := smSteps_says (c := c) (x := x - 1) (by omega) (by omega) ss hs
  obtain ⟨_, d1, d2⟩ := smSteps_says (c := c) (x := x - 2) (by omega) (by omega) ss hs
  obtain ⟨e1, e2⟩ := dist_even ok.lh h1 h2 h3 h4
  show (stepsF c ss (x, 0)).1 = 2 * (stepsF c ss (x - 1, 0)).1 - (stepsF c ss (x - 2, 0)).1 ∧ (stepsF c ss (x, 0)).2 = 2 * (stepsF c ss (x - 1, 0)).2 - (stepsF c ss (x - 2, 0)).2
  generalize (stepsF c ss (x, 0)) = px at *
  generalize (stepsF c ss (x - 1, 0)) = py at *
  generalize (stepsF c ss (x - 2, 0)) = pz at *
  obtain ⟨px1, px2⟩ := px
  obtain ⟨py1, py2⟩ := py
  obtain ⟨pz1, pz2⟩ := pz
  simp only at a1 a2 b1 b2 d1 d2
  generalize smSteps c ss = m at *
  obtain ⟨low, high, extra, goal, turned⟩ := m
  simp only at a1 a2 b1 b2 d1 d2 e1 e2
  refine ⟨?_, by show px2 = 2 * py2 - pz2; omega⟩
  show px1 = 2 * py1 - pz1
  cases goal <;> cases turned <;> simp [placeF, sideF] at a2 b2 d2 <;> omega
/-- the numbers that `telling` lists: 0 and both plans' ends, each with the next -/
def boundsF (c : Int) (a b : List Stp) : List Int := [0, (smSteps c a).low, (smSteps c a).high, (smSteps c b).low, (smSteps c b).high]
def TellF (c : Int) (a b : List Stp) (x : Int) : Prop := x ≤ c ∧ ∃ z ∈ boundsF c a b, x = z ∨ x = z + 1
theorem tell_first {c x : Int} {a b : List Stp} (ha : ∀ s ∈ a, s.ok c) (hb : ∀ s ∈ b, s.ok c) (x0 : 0 ≤ x) (x1 : x ≤ c) (hd : outF c a x ≠ outF c b x) (hs : ∀ y, 0 ≤ y → y < x → outF c a y = outF c b y) : TellF c a b x := by
  by_cases q : TellF c a b x
  · exact q
  · exfalso
    have f : ∀ z ∈ boundsF c a b, x ≠ z ∧ x ≠ z + 1 := fun z hz => ⟨fun e => q ⟨x1, z, hz, .inl e⟩, fun e => q ⟨x1, z, hz, .inr e⟩⟩
    simp only [boundsF, List.mem_cons, List.not_mem_nil, or_false, forall_eq_or_imp, forall_eq] at f
    obtain ⟨f0, f1, f2, f3, f4⟩ := f
    obtain ⟨p1, p2⟩ := out_even ha (show 2 ≤ x by omega) x1 f1.1 f1.2 f2.1 f2.2
    obtain ⟨q1, q2⟩ := out_even hb (show 2 ≤ x by omega) x1 f3.1 f3.2 f4.1 f4.2
    have g1 := hs (x - 1) (by omega) (by omega)
    have g2 := hs (x - 2) (by omega) (by omega)
    rw [g1, g2] at p1 p2
    exact hd (Prod.ext (p1.trans q1.symm) (p2.trans q2.symm))
/-- what first_difference answers -/
def FirstF (c : Int) (a b : List Stp) : Option Int → Prop
  | none => ∀ x, 0 ≤ x → x ≤ c → outF c a x = outF c b x
  | some x => 0 ≤ x ∧ x ≤ c ∧ outF c a x ≠ outF c b x ∧ ∀ y, 0 ≤ y → y < x → outF c a y = outF c b y
theorem below {c : Int} {a b : List Stp} (ha : ∀ s ∈ a, s.ok c) (hb : ∀ s ∈ b, s.ok c) {n : Int} (hn : n ≤ c + 1) (ht : ∀ y, 0 ≤ y → y < n → TellF c a b y → outF c a y = outF c b y) : ∀ (k : Nat) (y : Int), y = (k : Int) → y < n → outF c a y = outF c b y := by
  intro k
  induction k using Nat.strongRecOn with
  | _ k ih =>
    intro y hy hlt
    by_cases q : outF c a y = outF c b y
    · exact q
    · exact ht y (by omega) hlt (tell_first ha hb (by omega) (by omega) q fun z z0 z1 => ih z.toNat (by omega) z (by omega) (by omega))
theorem first_some {c : Int} {a b : List Stp} (ha : ∀ s ∈ a, s.ok c) (hb : ∀ s ∈ b, s.ok c) {x : Int} (x0 : 0 ≤ x) (x1 : x ≤ c) (hd : outF c a x ≠ outF c b x) (ht : ∀ y, 0 ≤ y → y < x → TellF c a b y → outF c a y = outF c b y) : FirstF c a b (some x) :=
  ⟨x0, x1, hd, fun y y0 y1 => below ha hb (n := x) (by omega) ht y.toNat y (by omega) y1⟩
theorem first_none {c : Int} {a b : List Stp} (ha : ∀ s ∈ a, s.ok c) (hb : ∀ s ∈ b, s.ok c) (ht : ∀ y, 0 ≤ y → y ≤ c → TellF c a b y → outF c a y = outF c b y) : FirstF c a b none :=
  fun x x0 x1 => below ha hb (n := c + 1) (by omega) (fun y y0 y1 => ht y y0 (by omega)) x.toNat x (by omega) (by omega)
theorem first_uniq {c : Int} {a b : List Stp} : ∀ {o o' : Option Int}, FirstF c a b o → FirstF c b a o' → o = o'
  | none, none, _, _ => rfl
  | none, some x, h, ⟨x0, x1, hd, _⟩ => absurd (h x x0 x1).symm hd
  | some x, none, ⟨x0, x1, hd, _⟩, h => absurd (h x x0 x1).symm hd
  | some x, some y, ⟨x0, x1, hd, hm⟩, ⟨y0, y1, he, hn⟩ => by
    have e : x = y := by
      rcases Int.lt_trichotomy x y with q | q | q
      · exact absurd (hn x x0 q).symm hd
      · exact q
      · exact absurd (hm y y0 q).symm he
    rw [e]
theorem eqv_ints (a b c d : Int) : PyData.eqv (.tuple [.int a, .int b]) (.tuple [.int c, .int d]) = decide ((a, b) = (c, d)) := by
  have q : ∀ i j : Int, (i == j) = decide (i = j) := fun i j => by by_cases h : i = j <;> simp [h]
  simp [PyData.eqv, PyData.eqvAll, q]
theorem shaped_ints (a b : Int) : SeqAt.shaped (.tuple [.int a, .int b]) = true := by
  simp [SeqAt.shaped, PyData.canLay0, PyData.canLayAll0, PyData.depth, PyData.depthAll]
/-- a part of a list of steps -/
theorem Steps.drop {H : Hp} : ∀ {vs : List V} {ss : List Stp} (n : Nat), Steps H vs ss → Steps H (vs.drop n) (ss.drop n)
  | _, _, 0, h => h
  | _, _, _ + 1, .nil => .nil
  | _, _, n + 1, .cons _ t => Steps.drop n t
theorem Steps.take {H : Hp} : ∀ {vs : List V} {ss : List Stp} (n : Nat), Steps H vs ss → Steps H (vs.take n) (ss.take n)
  | _, _, 0, _ => .nil
  | _, _, _ + 1, .nil => .nil
  | _, _, n + 1, .cons r t => .cons r (Steps.take n t)
theorem Steps.cut {H : Hp} {vs : List V} {ss : List Stp} (h : Steps H vs ss) (lo hi : Option Int) : ∃ us, Steps H (cutV vs lo hi) us ∧ us.length ≤ ss.length ∧ ∀ u ∈ us, u ∈ ss := by
  refine ⟨_, (h.drop _).take _, ?_, fun u hu => List.mem_of_mem_drop (List.mem_of_mem_take hu)⟩
  simp only [List.length_take, List.length_drop]
  omega
/-- a walk with a body of any form -/
theorem walk_any {J : It} {n : Nat} {G0 : Hp} {Nx : Hp → Prop} {Bd : V → Hp → (Hp → Prop) → Prop} (Pv : Nat → Hp → Prop) (h0 : Pv 0 G0) (hgo : ∀ i H, i < n → Pv i H → J.go i H) (hst : ∀ H, Pv n H → J.stop n H)
    (hs : ∀ i x H H', i < n → Pv i H → J.yld i H x H' → Bd x H' (Pv (i + 1))) (hd : ∀ H, Pv n H → Nx H) :
    ∃ W : Nat → Nat → Hp → Prop, (∃ m, W 0 m G0) ∧ ∀ j k G, W j k G → (J.stop j G ∧ Nx G) ∨ (J.go j G ∧ ∃ Ny : Hp → Prop, (∀ G', Ny G' → ∃ k', k' < k ∧ W (j + 1) k' G') ∧ ∀ x G', J.yld j G x G' → Bd x G' Ny) := by
  refine ⟨fun i m G => m = n - i ∧ i ≤ n ∧ Pv i G, ⟨n, (Nat.sub_zero n).symm, Nat.zero_le _, h0⟩, ?_⟩
  rintro i m H ⟨rfl, hi, p⟩
  by_cases hlt : i < n
  · exact .inr ⟨hgo i H hlt p, Pv (i + 1), fun H' p' => ⟨n - (i + 1), by omega, rfl, hlt, p'⟩, fun x H' y => hs i x H H' hlt p y⟩
  · have e : i = n := by omega
    subst e
    exact .inl ⟨hst H p, hd H p⟩
theorem walk_tup {K : PySem.W.Frag} {a : Addr} {xs : List V} {G0 : Hp} {Nx : Hp → Prop} {Bd : V → Hp → (Hp → Prop) → Prop} (Pv : Nat → Hp → Prop) (h0 : Pv 0 G0) (hl : ∀ i H, Pv i H → SqT K H a xs)
    (hs : ∀ i x H, xs[i]? = some x → Pv i H → Bd x H (Pv (i + 1))) (hd : ∀ H, Pv xs.length H → Nx H) :
    ∃ W : Nat → Nat → Hp → Prop, (∃ m, W 0 m G0) ∧ ∀ j k G, W j k G → ((Itt K a).stop j G ∧ Nx G) ∨ ((Itt K a).go j G ∧ ∃ Ny : Hp → Prop, (∀ G', Ny G' → ∃ k', k' < k ∧ W (j + 1) k' G') ∧ ∀ x G', (Itt K a).yld j G x G' → Bd x G' Ny) :=
  walk_any (n := xs.length) Pv h0 (fun i H hi p => ⟨xs, xs[i], hl i H p, by simp [hi]⟩) (fun H p => ⟨xs, hl _ H p, Nat.le_refl _⟩) (fun i x H H' hi p y => by
    obtain ⟨e, y⟩ := y
    subst e
    exact hs i x _ (y xs (hl i _ p)) p) hd
theorem walk_list {K : PySem.W.Frag} {a : Addr} {xs : List V} {G0 : Hp} {Nx : Hp → Prop} {Bd : V → Hp → (Hp → Prop) → Prop} (Pv : Nat → Hp → Prop) (h0 : Pv 0 G0) (hl : ∀ i H, Pv i H → SqL K H a xs)
    (hs : ∀ i x H, xs[i]? = some x → Pv i H → Bd x H (Pv (i + 1))) (hd : ∀ H, Pv xs.length H → Nx H) :
    ∃ W : Nat → Nat → Hp → Prop, (∃ m, W 0 m G0) ∧ ∀ j k G, W j k G → ((Itl K a).stop j G ∧ Nx G) ∨ ((Itl K a).go j G ∧ ∃ Ny : Hp → Prop, (∀ G', Ny G' → ∃ k', k' < k ∧ W (j + 1) k' G') ∧ ∀ x G', (Itl K a).yld j G x G' → Bd x G' Ny) :=
  walk_any (n := xs.length) Pv h0 (fun i H hi p => ⟨xs, xs[i], hl i H p, by simp [hi]⟩) (fun H p => ⟨xs, hl _ H p, Nat.le_refl _⟩) (fun i x H H' hi p y => by
    obtain ⟨e, y⟩ := y
    subst e
    exact hs i x _ (y xs (hl i _ p)) p) hd
theorem mem_before {ns : List Int} (hp : ns.Pairwise (· < ·)) {i : Nat} {z y : Int} (hz : ns[i]? = some z) (hy : y ∈ ns) (hlt : y < z) : y ∈ ns.take i := by
  obtain ⟨j, hj, ej⟩ := List.mem_iff_getElem.mp hy
  obtain ⟨hi, ei⟩ := List.getElem?_eq_some_iff.mp hz
  by_cases q : j < i
  · rw [List.mem_take_iff_getElem]
    exact ⟨j, by omega, ej⟩
  · exfalso
    by_cases e : j = i
    · subst e
      omega
    · have := List.pairwise_iff_getElem.mp hp i j hi hj (by omega)
      omega
/-! ### lists of steps: cut, joined, twice -/
section
variable {K : PySem.W.Frag} {c : Int} {H : Hp} {l b : Addr} {ws zs : List V} {ss us : List Stp} {Q : VK}
theorem do_cut {lo hi : Option Int} (hl : H l = some (.lst ws)) (hs : Steps H ws ss) (ho : ∀ s ∈ ss, s.ok c)
    (k : ∀ p vs us H', H p = none → Same H H' → H' p = some (.lst vs) → Steps H' vs us → us.length ≤ ss.length → (∀ u ∈ us, u.ok c) → Q (.ref p) H') : rSlL K (.ref l) lo hi H Q :=
  ⟨l, ws, rfl, SqL.of hl, fun p hp => let ⟨us, h1, h2, h3⟩ := hs.cut lo hi; k p _ us _ hp (same_upd hp) upd_same (h1.same (same_upd hp)) h2 fun u hu => ho u (h3 u hu)⟩
theorem do_cat (ha : H l = some (.lst ws)) (hs : Steps H ws ss) (hb : H b = some (.lst zs)) (ht : Steps H zs us) (hn : ss.length + us.length ≤ 100)
    (k : ∀ p H', H p = none → Same H H' → H' p = some (.lst (ws ++ zs)) → Steps H' (ws ++ zs) (ss ++ us) → Q (.ref p) H') : rCat (.ref l) (.ref b) H Q :=
  ⟨l, b, ws, zs, rfl, rfl, ha, hb, by rw [hs.length, ht.length, sizeLine_eq]; omega, fun p hp => k p _ hp (same_upd hp) upd_same ((hs.append ht).same (same_upd hp))⟩
theorem do_twice (ha : H l = some (.lst ws)) (hs : Steps H ws ss) (hn : ss.length ≤ 50)
    (k : ∀ p H', Same H H' → H' p = some (.lst (ws ++ ws)) → Steps H' (ws ++ ws) (ss ++ ss) → Q (.ref p) H') : rRep (.ref l) (.int 2) H Q :=
  ⟨l, 2, ws, rfl, rfl, ha, by decide, by decide, by rw [hs.length, sizeLine_eq]; show ss.length * 2 ≤ _; omega, fun p hp => by
    have e : (List.replicate (2 : Int).toNat ws).flatten = ws ++ ws := by
      show ws ++ (ws ++ []) = ws ++ ws
      rw [List.append_nil]
    rw [e]
    exact k p _ (same_upd hp) upd_same ((hs.append hs).same (same_upd hp))⟩
end
theorem lay_ints : ∀ ns : List Int, PyData.canLayAll0 (ns.map PyData.int) = true ∧ PyData.depthAll (ns.map PyData.int) = 0
  | [] => by simp [PyData.canLayAll0, PyData.depthAll]
  | n :: ns => by
    obtain ⟨a, b⟩ := lay_ints ns
    simp [PyData.canLayAll0, PyData.depthAll, PyData.canLay0, PyData.depth, a, b]
theorem shaped_list (ns : List Int) : SeqAt.shaped (.list (ns.map PyData.int)) = true := by
  obtain ⟨a, b⟩ := lay_ints ns
  unfold SeqAt.shaped
  simp [PyData.canLay0, PyData.depth, a, b]
theorem eqv_nil (ns : List Int) : PyData.eqv (.list (ns.map PyData.int)) (.list []) = decide (ns = []) := by
  cases ns <;> simp [PyData.eqv, PyData.eqvAll]
theorem dp_ints {K : PySem.W.Frag} {H : Hp} : ∀ ns : List Int, DpAll K H (ns.map V.int) (ns.map PyData.int)
  | [] => .nil
  | n :: ns => .cons (.int n) (dp_ints ns)
/-- the first of the starts below n -/
def FirstB (c : Int) (a b : List Stp) (n : Nat) : Option Int → Prop
  | none => ∀ x, 0 ≤ x → x < (n : Int) → outF c a x = outF c b x
  | some x => 0 ≤ x ∧ x < (n : Int) ∧ outF c a x ≠ outF c b x ∧ ∀ y, 0 ≤ y → y < x → outF c a y = outF c b y
theorem firstB_no {c : Int} {a b : List Stp} {n : Nat} : ∀ {o : Option Int}, FirstB c a b n o → outF c a (n : Int) = outF c b (n : Int) → FirstB c a b (n + 1) o
  | none, h, e => fun x x0 x1 => by
    by_cases q : x = (n : Int)
    · rw [q]
      exact e
    · exact h x x0 (by omega)
  | some _, ⟨h1, h2, h3, h4⟩, _ => ⟨h1, by omega, h3, h4⟩
theorem firstB_yes {c : Int} {a b : List Stp} {n : Nat} : ∀ {ns : List Int}, FirstB c a b n ns.head? → outF c a (n : Int) ≠ outF c b (n : Int) → FirstB c a b (n + 1) (ns ++ [(n : Int)]).head?
  | [], h, e => ⟨by omega, by omega, e, fun y y0 y1 => h y y0 y1⟩
  | _ :: _, ⟨h1, h2, h3, h4⟩, _ => ⟨h1, by omega, h3, h4⟩
theorem firstB_end {c : Int} {a b : List Stp} (c0 : 0 ≤ c) : ∀ {o : Option Int}, FirstB c a b (c + 1).toNat o → FirstF c a b o
  | none, h => fun x x0 x1 => h x x0 (by omega)
  | some _, ⟨h1, h2, h3, h4⟩ => ⟨h1, by omega, h3, h4⟩
theorem first_swap {c : Int} {a b : List Stp} : ∀ {o : Option Int}, FirstF c a b o → FirstF c b a o
  | none, h => fun x x0 x1 => (h x x0 x1).symm
  | some _, ⟨h1, h2, h3, h4⟩ => ⟨h1, h2, fun e => h3 e.symm, fun y y0 y1 => (h4 y y0 y1).symm⟩
theorem first_same {c : Int} {a b : List Stp} {o o' : Option Int} (h : FirstF c a b o) (h' : FirstF c a b o') : o = o' := first_uniq h (first_swap h')
theorem scal_goal (o o' : Option Int) : scal (goalV o) (goalV o') = true := by
  cases o <;> cases o' <;> rfl
end Cc

namespace Cc
open PySem PySem.Spec PyProof.Rows L2
abbrev sAlike : Stmt := top 32
/-! _law_alike of values that say the same -/
/-- scalars -/
def Scal (v : V) : Prop := (∃ i, v = .int i) ∨ (∃ y, v = .str y) ∨ (∃ y, v = .bl y) ∨ v = .non
/-- what never changes is kept: tuples, what is locked -/
def Fix (H H' : Hp) : Prop := (∀ b us, H b = some (.tup us) → H' b = some (.tup us)) ∧ ∀ b o u, H b = some (.frz o u) → H' b = some (.frz o u)
theorem Fix.of {H H' : Hp} (s : Same H H') : Fix H H' := ⟨fun _ _ e => s _ _ e, fun _ _ _ e => s _ _ e⟩
theorem Fix.trans {H H1 H2 : Hp} (a : Fix H H1) (b : Fix H1 H2) : Fix H H2 := ⟨fun _ _ e => b.1 _ _ (a.1 _ _ e), fun _ _ _ e => b.2 _ _ _ (a.2 _ _ _ e)⟩
def TupK (K : PySem.W.Frag) (H : Hp) (p : Addr) (xs : List V) : Prop := ∀ H', Fix H H' → SqT K H' p xs
theorem TupK.of {K : PySem.W.Frag} {H : Hp} {p : Addr} {xs : List V} (h : H p = some (.tup xs)) : TupK K H p xs := fun H' k => SqT.of (k.1 _ _ h)
theorem TupK.fix {K : PySem.W.Frag} {H H1 : Hp} {p : Addr} {xs : List V} (h : TupK K H p xs) (s : Fix H H1) : TupK K H1 p xs := fun H' k => h H' (s.trans k)
theorem TupK.same {K : PySem.W.Frag} {H H1 : Hp} {p : Addr} {xs : List V} (h : TupK K H p xs) (s : Same H H1) : TupK K H1 p xs := h.fix (Fix.of s)
theorem TupK.lock {K : PySem.W.Frag} {H : Hp} {p : Addr} {xs : List V} (h : TupP H p xs) : TupK K H p xs := fun H' k => let ⟨o, d, e⟩ := h; TupP.sq ⟨o, d, k.2 _ _ _ e⟩
theorem TupK.at_ {K : PySem.W.Frag} {H : Hp} {p : Addr} {xs : List V} (h : TupK K H p xs) : SqT K H p xs := h H (Fix.of (Same.refl H))
/-- two values that say the same, down to a depth -/
def SmD (K : PySem.W.Frag) (H : Hp) : Nat → V → V → Prop
  | 0, v, w => w = v ∧ Scal v
  | n + 1, v, w => SmD K H n v w ∨ ∃ (p q : Addr) (xs ys : List V), v = .ref p ∧ w = .ref q ∧ xs.length ≤ 100000 ∧ Paired (SmD K H n) xs ys ∧ ((H p = some (.lst xs) ∧ H q = some (.lst ys)) ∨ (TupK K H p xs ∧ TupK K H q ys))
theorem paired_mono {R S : V → V → Prop} (m : ∀ v w, R v w → S v w) : ∀ {xs ys : List V}, Paired R xs ys → Paired S xs ys
  | _, _, .nil => .nil
  | _, _, .cons a r => .cons (m _ _ a) (paired_mono m r)
theorem paired_at {R : V → V → Prop} : ∀ {xs ys : List V} {i : Nat} {x y : V}, Paired R xs ys → xs[i]? = some x → ys[i]? = some y → R x y
  | _, _, 0, _, _, .cons a r, e1, e2 => by
    cases e1
    cases e2
    exact a
  | _, _, i + 1, _, _, .cons a r, e1, e2 => paired_at (i := i) r e1 e2
theorem SmD.same {K : PySem.W.Frag} {H H1 : Hp} (s : Same H H1) : ∀ {n : Nat} {v w : V}, SmD K H n v w → SmD K H1 n v w
  | 0, _, _, h => h
  | n + 1, _, _, .inl h => .inl (SmD.same s h)
  | n + 1, _, _, .inr ⟨p, q, xs, ys, e1, e2, hn, hP, h⟩ => .inr ⟨p, q, xs, ys, e1, e2, hn, paired_mono (fun _ _ z => SmD.same s z) hP, h.imp (fun z => ⟨s _ _ z.1, s _ _ z.2⟩) fun z => ⟨z.1.same s, z.2.same s⟩⟩
def spAlike (K : PySem.W.Frag) (n : Nat) : Sp := fun vs H Q _ => ∃ (a b : V), vs = [a, b] ∧ SmD K H n a b ∧ ∀ H', Same H H' → Q (.bl true) H'
def spAlikeL (K : PySem.W.Frag) (n : Nat) : Sp := fun vs H Q _ => ∃ (p q : Addr) (xs ys : List V), vs = [.ref p, .ref q] ∧ H p = some (.lst xs) ∧ H q = some (.lst ys) ∧ xs.length ≤ 100000 ∧ Paired (SmD K H n) xs ys ∧ ∀ H', Same H H' → Q (.bl true) H'
def spAlikeT (K : PySem.W.Frag) (n : Nat) : Sp := fun vs H Q _ => ∃ (p q : Addr) (xs ys : List V), vs = [.ref p, .ref q] ∧ TupK K H p xs ∧ TupK K H q ys ∧ xs.length ≤ 100000 ∧ Paired (SmD K H n) xs ys ∧ ∀ H', Same H H' → Q (.bl true) H'
abbrev nAlike : List Str := ["_law_found", "_law_due", "_law_k"]
def ttSameDL (K : PySem.W.Frag) (n : Nat) : TT := tNot (tB fun σ H Q => tCons (tOp (rIxL K) (tVar 0) (tVar 2)) (tCons (tOp (rIxL K) (tVar 1) (tVar 2)) tNil) σ H fun vs H1 => spAlike K n vs H1 Q E0)
def ttSameDT (K : PySem.W.Frag) (n : Nat) : TT := tNot (tB fun σ H Q => tCons (tOp (rIxT K) (tVar 0) (tVar 2)) (tCons (tOp (rIxT K) (tVar 1) (tVar 2)) tNil) σ H fun vs H1 => spAlike K n vs H1 Q E0)
section
variable {P : Program} {w : World} {K : PySem.W.Frag} {mg : Str → Option Value} {base : Heap}
theorem scAlike : FnScope nAlike ["_law_found", "_law_due"] (defScope sAlike) := ⟨rfl, rfl, rfl, by decide +kernel, rfl, by decide +kernel, by decide +kernel⟩
theorem kit_no {K : PySem.W.Frag} {t : Value} {a b : Value} (h1 : PySem.W.kitOne K t a = some false) (h2 : PySem.W.kitOne K t b = some false) : PySem.W.kitAny K t [a, b] = some false :=
  kitAny_cons h1 (fun _ => kitAny_cons h2 (fun _ => kitAny_nil) fun z => nomatch z) fun z => nomatch z
theorem kit_fst {K : PySem.W.Frag} {t : Value} {a b : Value} (h1 : PySem.W.kitOne K t a = some true) : PySem.W.kitAny K t [a, b] = some true := kitAny_cons h1 (fun z => nomatch z) fun _ => rfl
theorem kit_yes {K : PySem.W.Frag} {t : Value} {a b : Value} (h1 : PySem.W.kitOne K t a = some false) (h2 : PySem.W.kitOne K t b = some true) : PySem.W.kitAny K t [a, b] = some true :=
  kitAny_cons h1 (fun _ => kitAny_cons h2 (fun z => nomatch z) fun _ => rfl) fun z => nomatch z
theorem ok_alike0 {f : Addr} {fd : FuncData} (F : Fun K "_law_alike" "_law_alike" sAlike f fd) (B : Bt mg) : FnOk P w K mg base CX0 1 f fd ["_law_found", "_law_due"] (spAlike K 0) := by
  refine F.ok scAlike (fun vs H Q E h => ?_) (fun cdv A outer s H vs Q E hr h => ?_)
  · obtain ⟨a, b, rfl, _⟩ := h
    rfl
  · obtain ⟨a, b, rfl, ⟨rfl, ha⟩, k⟩ := h
    refine ⟨_, pss_cons (ps_if (pt_val (pe_callB call_isi (by rfl) B.isinstance (by decide +kernel) (pa_cons (pv 1) (pa_cons (pe_bltn (v := .ty "dict") (by rfl) B.dict (by decide +kernel) rfl) pa_nil)))) (pss_one ps_never) pss_nil)
      (pss_cons (ps_if (pt_val (pe_callB call_isiT (by rfl) B.isinstance (by decide +kernel) (pa_cons (pv 1) (pa_cons (pe_tup (pa_cons (pe_bltn (v := .ty "tuple") (by rfl) B.tuple (by decide +kernel) rfl) (pa_cons (pe_bltn (v := .ty "list") (by rfl) B.list (by decide +kernel) rfl) pa_nil))) pa_nil)))) (pss_cons ps_never (pss_cons ps_never (pss_one ps_never))) pss_nil)
      (pss_cons (ps_if (PW.pt (pw_or (pt_cmpR op_isN (pv 1) pe_non (nomark _)) (pw_or1 (pt_val (pe_callB call_isi (by rfl) B.isinstance (by decide +kernel) (pa_cons (pv 1) (pa_cons (pe_bltn (v := .ty "str") (by rfl) B.str (by decide +kernel) rfl) pa_nil)))))))
        (pss_one (ps_ret (pe_and (pe_cmpR op_eq (pv 0) (pv 1) (nomark _)) (pe_one (pe_cmpR op_eq (pe_callB call_isi (by rfl) B.isinstance (by decide +kernel) (pa_cons (pv 0) (pa_cons (pe_bltn (v := .ty "str") (by rfl) B.str (by decide +kernel) rfl) pa_nil))) (pe_callB call_isi (by rfl) B.isinstance (by decide +kernel) (pa_cons (pv 1) (pa_cons (pe_bltn (v := .ty "str") (by rfl) B.str (by decide +kernel) rfl) pa_nil))) (nomark _)))))) pss_nil)
      (pss_one (ps_ret (pe_and (pe_callB call_isi (by rfl) B.isinstance (by decide +kernel) (pa_cons (pv 0) (pa_cons (pe_bltn (v := .ty "int") (by rfl) B.int (by decide +kernel) rfl) pa_nil))) (pe_and (pe_cmpR op_eq (pe_callB call_isi (by rfl) B.isinstance (by decide +kernel) (pa_cons (pv 0) (pa_cons (pe_bltn (v := .ty "bool") (by rfl) B.bool (by decide +kernel) rfl) pa_nil))) (pe_callB call_isi (by rfl) B.isinstance (by decide +kernel) (pa_cons (pv 1) (pa_cons (pe_bltn (v := .ty "bool") (by rfl) B.bool (by decide +kernel) rfl) pa_nil))) (nomark _)) (pe_one (pe_cmpR op_eq (pv 0) (pv 1) (nomark _))))))))), ?_⟩
    rcases ha with ⟨i, rfl⟩ | ⟨y, rfl⟩ | ⟨y, rfl⟩ | rfl
    · refine ⟨_, rfl, _, _, _, _, false, rfl, .ty "dict", .base (.int i), kit_ty (by decide +kernel), false, rfl, iteF ?_⟩
      refine ⟨_, rfl, by show 2 ≤ sizeLine; decide, fun t ht => ?_⟩
      refine ⟨_, t, _, _, _, false, rfl, upd_same, .cons (.ty "tuple") (.cons (.ty "list") .nil), .base (.int i), kit_no (kit_ty (by decide +kernel)) (kit_ty (by decide +kernel)), false, rfl, iteF ?_⟩
      refine ⟨_, rfl, rfl, _, rfl, ifF (by simp) ⟨_, rfl, _, _, _, _, false, rfl, .ty "str", .base (.int i), kit_ty (by decide +kernel), false, rfl, iteF ?_⟩⟩
      refine ⟨_, rfl, _, _, _, _, true, rfl, .ty "int", .base (.int i), kit_ty (by decide +kernel), true, rfl, iteT ?_⟩
      refine ⟨_, rfl, _, _, _, _, false, rfl, .ty "bool", .base (.int i), kit_ty (by decide +kernel), _, rfl, _, _, _, _, false, rfl, .ty "bool", .base (.int i), kit_ty (by decide +kernel), rfl, true, rfl, iteT ?_⟩
      refine ⟨_, rfl, _, rfl, rfl, ?_⟩
      rw [decide_eq_true (show V.int i = V.int i from rfl)]
      exact k _ (same_upd ht)
    · refine ⟨_, rfl, _, _, _, _, false, rfl, .ty "dict", .base (.str y), kit_ty (by decide +kernel), false, rfl, iteF ?_⟩
      refine ⟨_, rfl, by show 2 ≤ sizeLine; decide, fun t ht => ?_⟩
      refine ⟨_, t, _, _, _, false, rfl, upd_same, .cons (.ty "tuple") (.cons (.ty "list") .nil), .base (.str y), kit_no (kit_ty (by decide +kernel)) (kit_ty (by decide +kernel)), false, rfl, iteF ?_⟩
      refine ⟨_, rfl, rfl, _, rfl, ifF (by simp) ⟨_, rfl, _, _, _, _, true, rfl, .ty "str", .base (.str y), kit_ty (by decide +kernel), true, rfl, iteT ?_⟩⟩
      refine ⟨_, rfl, _, rfl, rfl, true, by rw [decide_eq_true (show V.str y = V.str y from rfl)], iteT ?_⟩
      refine ⟨_, rfl, _, _, _, _, true, rfl, .ty "str", .base (.str y), kit_ty (by decide +kernel), _, rfl, _, _, _, _, true, rfl, .ty "str", .base (.str y), kit_ty (by decide +kernel), rfl, ?_⟩
      exact k _ (same_upd ht)
    · refine ⟨_, rfl, _, _, _, _, false, rfl, .ty "dict", .base (.bl y), kit_ty (by decide +kernel), false, rfl, iteF ?_⟩
      refine ⟨_, rfl, by show 2 ≤ sizeLine; decide, fun t ht => ?_⟩
      refine ⟨_, t, _, _, _, false, rfl, upd_same, .cons (.ty "tuple") (.cons (.ty "list") .nil), .base (.bl y), kit_no (kit_ty (by decide +kernel)) (kit_ty (by decide +kernel)), false, rfl, iteF ?_⟩
      refine ⟨_, rfl, rfl, _, rfl, ifF (by simp) ⟨_, rfl, _, _, _, _, false, rfl, .ty "str", .base (.bl y), kit_ty (by decide +kernel), false, rfl, iteF ?_⟩⟩
      refine ⟨_, rfl, _, _, _, _, true, rfl, .ty "int", .base (.bl y), kit_ty (by decide +kernel), true, rfl, iteT ?_⟩
      refine ⟨_, rfl, _, _, _, _, true, rfl, .ty "bool", .base (.bl y), kit_ty (by decide +kernel), _, rfl, _, _, _, _, true, rfl, .ty "bool", .base (.bl y), kit_ty (by decide +kernel), rfl, true, rfl, iteT ?_⟩
      refine ⟨_, rfl, _, rfl, rfl, ?_⟩
      rw [decide_eq_true (show V.bl y = V.bl y from rfl)]
      exact k _ (same_upd ht)
    · refine ⟨_, rfl, _, _, _, _, false, rfl, .ty "dict", .base .non, kit_ty (by decide +kernel), false, rfl, iteF ?_⟩
      refine ⟨_, rfl, by show 2 ≤ sizeLine; decide, fun t ht => ?_⟩
      refine ⟨_, t, _, _, _, false, rfl, upd_same, .cons (.ty "tuple") (.cons (.ty "list") .nil), .base .non, kit_no (kit_ty (by decide +kernel)) (kit_ty (by decide +kernel)), false, rfl, iteF ?_⟩
      refine ⟨_, rfl, rfl, _, rfl, ifT (by simp) (iteT ?_)⟩
      refine ⟨_, rfl, _, rfl, rfl, true, by rw [decide_eq_true (show V.non = V.non from rfl)], iteT ?_⟩
      refine ⟨_, rfl, _, _, _, _, false, rfl, .ty "str", .base .non, kit_ty (by decide +kernel), _, rfl, _, _, _, _, false, rfl, .ty "str", .base .non, kit_ty (by decide +kernel), rfl, ?_⟩
      exact k _ (same_upd ht)
theorem ok_alikel {f : Addr} {fd : FuncData} (F : Fun K "_law_alike" "_law_alike" sAlike f fd) (B : Bt mg) {n : Nat} (DI : Dn P w K mg base (n + 1) "_law_alike" f (spAlike K n)) : FnOk P w K mg base CX0 (n + 1 + 1) f fd ["_law_found", "_law_due"] (spAlikeL K n) := by
  refine F.ok scAlike (fun vs H Q E h => ?_) (fun cdv A outer s H vs Q E hr h => ?_)
  · obtain ⟨p, q, xs, ys, rfl, _⟩ := h
    rfl
  · obtain ⟨p, q, xs, ys, rfl, hp, hq, hn, hP, k⟩ := h
    have hlen : xs.length = ys.length := Paired.length hP
    refine ⟨_, pss_cons (ps_if (pt_val (pe_callB call_isi (by rfl) B.isinstance (by decide +kernel) (pa_cons (pv 1) (pa_cons (pe_bltn (v := .ty "dict") (by rfl) B.dict (by decide +kernel) rfl) pa_nil)))) (pss_one ps_never) pss_nil)
      (pss_cons (ps_if (pt_val (pe_callB call_isiT (by rfl) B.isinstance (by decide +kernel) (pa_cons (pv 1) (pa_cons (pe_tup (pa_cons (pe_bltn (v := .ty "tuple") (by rfl) B.tuple (by decide +kernel) rfl) (pa_cons (pe_bltn (v := .ty "list") (by rfl) B.list (by decide +kernel) rfl) pa_nil))) pa_nil))))
        (pss_cons (ps_if (PW.pt (pw_or (pt_not (pt_val (pe_callB call_isiT (by rfl) B.isinstance (by decide +kernel) (pa_cons (pv 0) (pa_cons (pe_tup (pa_cons (pe_bltn (v := .ty "tuple") (by rfl) B.tuple (by decide +kernel) rfl) (pa_cons (pe_bltn (v := .ty "list") (by rfl) B.list (by decide +kernel) rfl) pa_nil))) pa_nil))))) (pw_or1 (pt_cmpR op_ne (pe_callB call_isi (by rfl) B.isinstance (by decide +kernel) (pa_cons (pv 0) (pa_cons (pe_bltn (v := .ty "list") (by rfl) B.list (by decide +kernel) rfl) pa_nil))) (pe_callB call_isi (by rfl) B.isinstance (by decide +kernel) (pa_cons (pv 1) (pa_cons (pe_bltn (v := .ty "list") (by rfl) B.list (by decide +kernel) rfl) pa_nil))) (nomark _))))) (pss_one ps_never) pss_nil)
        (pss_cons (ps_if (pt_cmpR op_ne (pe_callB call_len_seq (by rfl) B.len PySem.boot_len (pa_cons (pv 0) pa_nil)) (pe_callB call_len_seq (by rfl) B.len PySem.boot_len (pa_cons (pv 1) pa_nil)) (nomark _)) (pss_one ps_never) pss_nil)
        (pss_one (ps_ret (pe_cmpR (op_eqD hr.units) (pe_lc (own := [("_law_k", 2)]) (g := gName 2) (tt := ttSameDL K n) (te := tVar 2) rfl scAlike.nd (pi_range1 rfl B.range (pa_cons (pe_callB call_len_seq (by rfl) B.len PySem.boot_len (pa_cons (pv 1) pa_nil)) pa_nil)) (blkOk_by (N := nAlike) (sc := defScope sAlike) (by decide +kernel))
            (fun _ _ _ _ _ => pg_name (i := 2) scAlike.nd rfl (.inl rfl)) (fun _ _ _ _ _ => by exact (pts_one (pt_not (pt_val (pe_callR DI.ok hr rfl DI.at_ DI.kp pass0 (pa_cons (pe_ix ix_list (pv 0) (pv 2) (fun _ _ => rfl)) (pa_cons (pe_ix ix_list (pv 1) (pv 2) (fun _ _ => rfl)) pa_nil))))))) (fun _ _ _ _ _ => pv 2)) (pe_lst pa_nil) (nomark _)))))) pss_nil)
      (pss_cons ps_never (pss_one ps_never))), ?_⟩
    refine ⟨_, rfl, _, _, _, _, false, rfl, .ty "dict", .base (.lst hq), kit_ty (by decide +kernel), false, rfl, iteF ?_⟩
    refine ⟨_, rfl, by show 2 ≤ sizeLine; decide, fun t ht => ?_⟩
    have s1 : Same H (upd H t (.tup [.ty "tuple", .ty "list"])) := same_upd ht
    refine ⟨_, t, _, _, _, true, rfl, upd_same, .cons (.ty "tuple") (.cons (.ty "list") .nil), .base (.lst (s1 _ _ hq)), kit_yes (kit_ty (by decide +kernel)) (kit_ty (by decide +kernel)), true, rfl, iteT ?_⟩
    refine ⟨_, rfl, by show 2 ≤ sizeLine; decide, fun t2 ht2 => ?_⟩
    have s2 := s1.trans (same_upd (o := .tup [.ty "tuple", .ty "list"]) ht2)
    refine ⟨_, t2, _, _, _, true, rfl, upd_same, .cons (.ty "tuple") (.cons (.ty "list") .nil), .base (.lst (s2 _ _ hp)), kit_yes (kit_ty (by decide +kernel)) (kit_ty (by decide +kernel)), true, rfl, ?_⟩
    refine ⟨_, rfl, _, _, _, _, true, rfl, .ty "list", .base (.lst (s2 _ _ hp)), kit_ty (by decide +kernel), _, rfl, _, _, _, _, true, rfl, .ty "list", .base (.lst (s2 _ _ hq)), kit_ty (by decide +kernel), rfl, _, rfl, iteF ?_⟩
    refine ⟨_, rfl, p, _, rfl, .inl (SqL.of (s2 _ _ hp)), _, rfl, q, _, rfl, .inl (SqL.of (s2 _ _ hq)), rfl, _, rfl, ifF (by rw [hlen]; simp) ?_⟩
    refine ⟨_, rfl, q, _, rfl, .inl (SqL.of (s2 _ _ hq)), _, rfl, by omega, by omega, fun D hD => ?_⟩
    refine lc_range (lo := 0) (n := (((ys.length : Nat) : Int)).toNat) (fun i H' => Same H H' ∧ H' D = some (.lst [])) ⟨s2.trans (same_upd hD), upd_same⟩ ?_ ?_
    · rintro i H3 hi ⟨s3, e3⟩
      have hi' : i < ys.length := by omega
      obtain ⟨x, ex⟩ : ∃ x, xs[i]? = some x := ⟨_, List.getElem?_eq_getElem (by omega)⟩
      obtain ⟨y, ey⟩ : ∃ y, ys[i]? = some y := ⟨_, List.getElem?_eq_getElem hi'⟩
      have hxy := paired_at hP ex ey
      have ei : (0 : Int) + (i : Int) = ((i : Nat) : Int) := Int.zero_add _
      refine ⟨rfl, _, rfl, _, rfl, p, _, _, _, rfl, rfl, SqL.of (s3 _ _ hp), at_of (j := i) ei ex, _, rfl, _, rfl, q, _, _, _, rfl, rfl, SqL.of (s3 _ _ hq), at_of (j := i) ei ey, x, y, rfl, hxy.same s3, fun H4 s4 => ⟨true, rfl, ifF rfl ?_⟩⟩
      exact ⟨s3.trans s4, s4 _ _ e3⟩
    · rintro H3 ⟨s3, e3⟩
      refine ⟨by show 0 ≤ sizeLine; decide, fun D2 hD2 => ?_⟩
      have s4 := s3.trans (same_upd (o := .lst []) hD2)
      refine ⟨.list (([] : List Int).map PyData.int), .list (([] : List Int).map PyData.int), .lst (SqL.of ((same_upd hD2) _ _ e3)) (dp_ints []), .lst (SqL.of upd_same) (dp_ints []), shaped_list _, shaped_list _, ?_⟩
      rw [eqv_selfs]
      exact k _ s4
theorem ok_aliket {f : Addr} {fd : FuncData} (F : Fun K "_law_alike" "_law_alike" sAlike f fd) (B : Bt mg) {n : Nat} (DI : Dn P w K mg base (n + 1) "_law_alike" f (spAlike K n)) : FnOk P w K mg base CX0 (n + 1 + 1) f fd ["_law_found", "_law_due"] (spAlikeT K n) := by
  refine F.ok scAlike (fun vs H Q E h => ?_) (fun cdv A outer s H vs Q E hr h => ?_)
  · obtain ⟨p, q, xs, ys, rfl, _⟩ := h
    rfl
  · obtain ⟨p, q, xs, ys, rfl, hp, hq, hn, hP, k⟩ := h
    have hlen : xs.length = ys.length := Paired.length hP
    have gp : ∀ {H'}, Same H H' → SqT K H' p xs := fun s => hp _ (Fix.of s)
    have gq : ∀ {H'}, Same H H' → SqT K H' q ys := fun s => hq _ (Fix.of s)
    refine ⟨_, pss_cons (ps_if (pt_val (pe_callB call_isi (by rfl) B.isinstance (by decide +kernel) (pa_cons (pv 1) (pa_cons (pe_bltn (v := .ty "dict") (by rfl) B.dict (by decide +kernel) rfl) pa_nil)))) (pss_one ps_never) pss_nil)
      (pss_cons (ps_if (pt_val (pe_callB call_isiT (by rfl) B.isinstance (by decide +kernel) (pa_cons (pv 1) (pa_cons (pe_tup (pa_cons (pe_bltn (v := .ty "tuple") (by rfl) B.tuple (by decide +kernel) rfl) (pa_cons (pe_bltn (v := .ty "list") (by rfl) B.list (by decide +kernel) rfl) pa_nil))) pa_nil))))
        (pss_cons (ps_if (PW.pt (pw_or (pt_not (pt_val (pe_callB call_isiT (by rfl) B.isinstance (by decide +kernel) (pa_cons (pv 0) (pa_cons (pe_tup (pa_cons (pe_bltn (v := .ty "tuple") (by rfl) B.tuple (by decide +kernel) rfl) (pa_cons (pe_bltn (v := .ty "list") (by rfl) B.list (by decide +kernel) rfl) pa_nil))) pa_nil))))) (pw_or1 (pt_cmpR op_ne (pe_callB call_isi (by rfl) B.isinstance (by decide +kernel) (pa_cons (pv 0) (pa_cons (pe_bltn (v := .ty "list") (by rfl) B.list (by decide +kernel) rfl) pa_nil))) (pe_callB call_isi (by rfl) B.isinstance (by decide +kernel) (pa_cons (pv 1) (pa_cons (pe_bltn (v := .ty "list") (by rfl) B.list (by decide +kernel) rfl) pa_nil))) (nomark _))))) (pss_one ps_never) pss_nil)
        (pss_cons (ps_if (pt_cmpR op_ne (pe_callB call_len_seq (by rfl) B.len PySem.boot_len (pa_cons (pv 0) pa_nil)) (pe_callB call_len_seq (by rfl) B.len PySem.boot_len (pa_cons (pv 1) pa_nil)) (nomark _)) (pss_one ps_never) pss_nil)
        (pss_one (ps_ret (pe_cmpR (op_eqD hr.units) (pe_lc (own := [("_law_k", 2)]) (g := gName 2) (tt := ttSameDT K n) (te := tVar 2) rfl scAlike.nd (pi_range1 rfl B.range (pa_cons (pe_callB call_len_seq (by rfl) B.len PySem.boot_len (pa_cons (pv 1) pa_nil)) pa_nil)) (blkOk_by (N := nAlike) (sc := defScope sAlike) (by decide +kernel))
            (fun _ _ _ _ _ => pg_name (i := 2) scAlike.nd rfl (.inl rfl)) (fun _ _ _ _ _ => by exact (pts_one (pt_not (pt_val (pe_callR DI.ok hr rfl DI.at_ DI.kp pass0 (pa_cons (pe_ix ix_tup (pv 0) (pv 2) (fun _ _ => rfl)) (pa_cons (pe_ix ix_tup (pv 1) (pv 2) (fun _ _ => rfl)) pa_nil))))))) (fun _ _ _ _ _ => pv 2)) (pe_lst pa_nil) (nomark _)))))) pss_nil)
      (pss_cons ps_never (pss_one ps_never))), ?_⟩
    refine ⟨_, rfl, _, _, _, _, false, rfl, .ty "dict", sqT_ty (gq (Same.refl H)), kit_ty (by decide +kernel), false, rfl, iteF ?_⟩
    refine ⟨_, rfl, by show 2 ≤ sizeLine; decide, fun t ht => ?_⟩
    have s1 : Same H (upd H t (.tup [.ty "tuple", .ty "list"])) := same_upd ht
    refine ⟨_, t, _, _, _, true, rfl, upd_same, .cons (.ty "tuple") (.cons (.ty "list") .nil), sqT_ty (gq s1), kit_fst (kit_ty (by decide +kernel)), true, rfl, iteT ?_⟩
    refine ⟨_, rfl, by show 2 ≤ sizeLine; decide, fun t2 ht2 => ?_⟩
    have s2 := s1.trans (same_upd (o := .tup [.ty "tuple", .ty "list"]) ht2)
    refine ⟨_, t2, _, _, _, true, rfl, upd_same, .cons (.ty "tuple") (.cons (.ty "list") .nil), sqT_ty (gp s2), kit_fst (kit_ty (by decide +kernel)), true, rfl, ?_⟩
    refine ⟨_, rfl, _, _, _, _, false, rfl, .ty "list", sqT_ty (gp s2), kit_ty (by decide +kernel), _, rfl, _, _, _, _, false, rfl, .ty "list", sqT_ty (gq s2), kit_ty (by decide +kernel), rfl, _, rfl, iteF ?_⟩
    refine ⟨_, rfl, p, _, rfl, .inr (gp s2), _, rfl, q, _, rfl, .inr (gq s2), rfl, _, rfl, ifF (by rw [hlen]; simp) ?_⟩
    refine ⟨_, rfl, q, _, rfl, .inr (gq s2), _, rfl, by omega, by omega, fun D hD => ?_⟩
    refine lc_range (lo := 0) (n := (((ys.length : Nat) : Int)).toNat) (fun i H' => Same H H' ∧ H' D = some (.lst [])) ⟨s2.trans (same_upd hD), upd_same⟩ ?_ ?_
    · rintro i' H3 hi ⟨s3, e3⟩
      have ei : (0 : Int) + (i' : Int) = ((i' : Nat) : Int) := Int.zero_add _
      obtain ⟨x, ex⟩ : ∃ x, xs[i']? = some x := ⟨_, List.getElem?_eq_getElem (by omega)⟩
      obtain ⟨y, ey⟩ : ∃ y, ys[i']? = some y := ⟨_, List.getElem?_eq_getElem (by omega)⟩
      have hxy := paired_at hP ex ey
      refine ⟨rfl, _, rfl, _, rfl, p, _, _, _, rfl, rfl, gp s3, at_of (j := i') ei ex, _, rfl, _, rfl, q, _, _, _, rfl, rfl, gq s3, at_of (j := i') ei ey, x, y, rfl, hxy.same s3, fun H4 s4 => ⟨true, rfl, ifF rfl ?_⟩⟩
      exact ⟨s3.trans s4, s4 _ _ e3⟩
    · rintro H3 ⟨s3, e3⟩
      refine ⟨by show 0 ≤ sizeLine; decide, fun D2 hD2 => ?_⟩
      have s4 := s3.trans (same_upd (o := .lst []) hD2)
      refine ⟨.list (([] : List Int).map PyData.int), .list (([] : List Int).map PyData.int), .lst (SqL.of ((same_upd hD2) _ _ e3)) (dp_ints []), .lst (SqL.of upd_same) (dp_ints []), shaped_list _, shaped_list _, ?_⟩
      rw [eqv_selfs]
      exact k _ s4
theorem ok_alikeD {f : Addr} {fd : FuncData} (F : Fun K "_law_alike" "_law_alike" sAlike f fd) (B : Bt mg) (at_ : mg "_law_alike" = some (.ref f)) (kp : PySem.W.keepIn K (.ref f) = true) (hb : Binds K fd ["_law_found", "_law_due"] []) : ∀ n : Nat, FnOk P w K mg base CX0 (n + 1) f fd ["_law_found", "_law_due"] (spAlike K n)
  | 0 => ok_alike0 F B
  | n + 1 => by
    have A := ok_alikeD F B at_ kp hb n
    have D : Dn P w K mg base (n + 1) "_law_alike" f (spAlike K n) := ⟨at_, kp, (A.raw hb .nil).imp fun vs H Q E h => by rw [List.append_nil]; exact h⟩
    have L := ok_alikel F B D
    have T := ok_aliket F B D
    refine ⟨fun vs H Q E h => ?_, fun A' outer s H args us vs Q E hr e0 hbd r h => ?_⟩
    · obtain ⟨a, b, rfl, _⟩ := h
      rfl
    · obtain ⟨a, b, e, h, k⟩ := h
      rcases h with h | ⟨p, q, xs, ys, rfl, rfl, hn, hP, ⟨h1, h2⟩ | ⟨h1, h2⟩⟩
      · exact (A.mono (Nat.le_succ _)).run A' outer s H args us vs Q E hr e0 hbd r ⟨a, b, e, h, k⟩
      · exact L.run A' outer s H args us vs Q E hr e0 hbd r ⟨p, q, xs, ys, e, h1, h2, hn, hP, k⟩
      · exact T.run A' outer s H args us vs Q E hr e0 hbd r ⟨p, q, xs, ys, e, h1, h2, hn, hP, k⟩
end
end Cc

/-! Own rules: count of a list, of a tuple; what is never reached; isinstance of a caught error. -/
namespace Cc
open PySem PySem.Spec PyProof.Rows L2
theorem room65 {k : Nat} {A : Around} (hr : Room k A) : A.units + 65 < cLine := by
  have := hr.un
  omega
/-- what is never reached -/
theorem pe_never {X : Cx} {e : Expr} : PE X e (fun _ _ _ => False) := ⟨fun _ _ _ _ _ _ h => h.elim⟩
def rCountL (K : PySem.W.Frag) : V → List V → Hp → VK → Prop := fun x xs H Q => ∃ (a : Addr) (ys : List V) (y : V) (d : PyData) (ds : List PyData), x = V.ref a ∧ xs = [y] ∧ SqL K H a ys ∧ DpAll K H ys ds ∧ Dp K H y d ∧
  SeqAt.shaped (.list ds) = true ∧ SeqAt.shaped d = true ∧ PyData.plainAll ds = true ∧ d.plain = true ∧ Q (.int ((ds.countP fun z => PyData.eqv z d : Nat) : Int)) H
def rCountT (K : PySem.W.Frag) : V → List V → Hp → VK → Prop := fun x xs H Q => ∃ (a : Addr) (ys : List V) (y : V) (d : PyData) (ds : List PyData), x = V.ref a ∧ xs = [y] ∧ SqT K H a ys ∧ DpAll K H ys ds ∧ Dp K H y d ∧
  SeqAt.shaped (.list ds) = true ∧ SeqAt.shaped d = true ∧ PyData.plainAll ds = true ∧ d.plain = true ∧ Q (.int ((ds.countP fun z => PyData.eqv z d : Nat) : Int)) H
theorem mt_countL {X : Cx} (hu : X.A.units + 65 < cLine) : MtR X "list.count" (rCountL X.K) := by
  intro pins s σ H x xs v us Q I rx rxs h; obtain ⟨a, ys, y, d, ds, rfl, rfl, hs, ha, hy, sl, sd, pl, pd, q⟩ := h
  cases rx
  cases rxs with
  | cons ry rt =>
    rename_i uy ut
    cases rt
    obtain ⟨bs, r1⟩ := Dp.reads I d y uy hy ry; have hroom : X.A.units + 1 + min (PyData.depthAll ds) d.depth < cLine := room_in_shaped sd hu
    obtain ⟨its, rv, p, hlen⟩ := I.list hs
    obtain ⟨as, h4⟩ := Dp.readsAll I ds _ its ha rv; exact SeqAt.count_list_data (vs := its.toArray) p.isList (by simpa using h4) r1 pl pd hroom ⟨.int _, H, I.tok _, ⟨_, rfl⟩, q⟩
theorem mt_countT {X : Cx} (hu : X.A.units + 65 < cLine) : MtR X "tuple.count" (rCountT X.K) := by
  intro pins s σ H x xs v us Q I rx rxs h; obtain ⟨a, ys, y, d, ds, rfl, rfl, hs, ha, hy, sl, sd, pl, pd, q⟩ := h
  cases rx
  cases rxs with
  | cons ry rt =>
    rename_i uy ut
    cases rt
    obtain ⟨bs, r1⟩ := Dp.reads I d y uy hy ry; have hroom : X.A.units + 1 + min (PyData.depthAll ds) d.depth < cLine := room_in_shaped sd hu
    obtain ⟨its, rv, p, hlen⟩ := I.tuple hs
    obtain ⟨as, h4⟩ := Dp.readsAll I ds _ its ha rv; exact SeqAt.count_tuple_data (vs := its.toArray) p (by simpa using h4) r1 pl pd hroom ⟨.int _, H, I.tok _, ⟨_, rfl⟩, q⟩
/-- a method of a locked tuple -/
def tBMZ (r : V → List V → Hp → VK → Prop) (to : TE) (t : TA) : TE := fun σ H Q => to σ H fun x H1 => (∃ p ws, x = V.ref p ∧ TupP H1 p ws) ∧ t σ H1 fun xs H2 => r x xs H2 Q
theorem pe_bmZ {X : Cx} {o e : Expr} {es : List Expr} {to : TE} {t : TA} {name : Str} {apos cpos : Pos} {id : String} {r : V → List V → Hp → VK → Prop} (slot : Slot "tuple" name id) (hty : typeOf (.builtin id) = pure (.type "method_descriptor")) (hm : MtR X id r) (ho : PE X o to) (ha : PA X (e :: es) t)
    (hbase : attributeBase o name X.env (eval o X.env) = eval o X.env := by rfl) (hfew : ((backTo cpos (starEach (e :: es) X.env)).all (fun x => !x.1) && (backToKw cpos (keywordEach [] X.env)).all (fun x => x.1.isSome) && decide ((e :: es).length + ([] : List Keyword).length + (if ([] : List Keyword).isEmpty then 0 else 1) < 30)) = true := by rfl)
    (hline : (apos.endLine == cpos.line) = true := by rfl) (hs : starEach (e :: es) X.env = (false, eval e X.env) :: starEach es X.env := by rfl) (hpl : (backTo cpos (starEach es X.env)).any (·.1) = false := by rfl) :
    PE X (.Call (.Attribute o name apos) (e :: es) [] cpos) (tBMZ r to t) := by
  refine ⟨fun pins s σ H Q I h => wpAny_Call_method_late hbase hfew hline rfl (thn (ho.run pins s σ H _ I h) fun v s1 ⟨x, H1, I1, r1, ⟨p, ws, ex, ob, d0, eH⟩, q1⟩ => ?_)⟩
  subst ex
  cases r1
  obtain ⟨g0, _, its, _, ⟨o2, g2, c2, _⟩⟩ := (show ObjOk X.prog X.w H1 s1.heap p (.frz ob (.tup ws)) from I1.hok p _ eH)
  have ti : s1.TypeIs (.ref p) "tuple" := ⟨o2, g2, c2⟩
  refine ⟨"tuple", id, PySem.F.plainAttrs_tuple, slot, hty, ti, fun a z => ⟨ob, by cases z; exact g0, d0⟩, ?_⟩
  have hA := ha.run cpos pins s1 σ H1 _ I1 q1; rw [hs] at hA ⊢
  exact Calls.callWith_builtin (by show (false || (backTo cpos (starEach es X.env)).any (·.1)) = false; rw [hpl]; rfl) (Calls.evalArgs_plain (thn hA fun us s2 ⟨vs, H2, I2, r2, q2⟩ => hm pins s2 σ H2 (.ref p) vs (.ref p) us Q I2 rfl r2 q2))
/-- an own class asked of an own class's instance -/
theorem kit_ref {K : PySem.W.Frag} {C : Addr} {cls : Value} {b : Bool} (i : PySem.W.isClsIn K C = true) (t : PySem.W.typeIn K (.ref C) = some (.type "type")) (h : PySem.W.subIn K cls (.ref C) = some b) (ne : b = false → (cls == Value.ref C) = false) : PySem.W.kitOne K cls (.ref C) = some b := by
  have i2 : (PySem.W.clsIn K C).isSome = true := i
  unfold PySem.W.kitOne
  by_cases q : (cls == Value.ref C) = true
  · rw [if_pos q]
    cases b with
    | true => rfl
    | false =>
      rw [ne rfl] at q
      cases q
  · rw [if_neg q]
    show PySem.W.kitCls K cls (.ref C) = some b
    unfold PySem.W.kitCls
    simp only [i2, t, h]
    rfl
/-- steps as data -/
def stpD : Stp → PyData
  | .turn => .tuple [.str "turn"]
  | .meet b n => .tuple [.str (roomS b), .int n]
theorem stpD_dp {K : PySem.W.Frag} {H : Hp} : ∀ {vs : List V} {ss : List Stp}, Steps H vs ss → DpAll K H vs (ss.map stpD)
  | _, _, .nil => .nil
  | _, s :: ss, .cons ⟨t, e, h⟩ r => by
    subst e
    refine .cons ?_ (stpD_dp r)
    cases s with
    | turn => exact .tup (SqT.of h) (.cons (.str _) .nil)
    | meet b n => exact .tup (SqT.of h) (.cons (.str _) (.cons (.int _) .nil))
theorem stpD_lay : ∀ ss : List Stp, PyData.canLayAll0 (ss.map stpD) = true ∧ PyData.depthAll (ss.map stpD) ≤ 1 ∧ PyData.plainAll (ss.map stpD) = true
  | [] => by simp [PyData.canLayAll0, PyData.depthAll, PyData.plainAll]
  | s :: ss => by
    obtain ⟨a, b, c⟩ := stpD_lay ss
    have h1 : ∀ bb, PyData.strOk (roomS bb) = true := fun bb => by cases bb <;> decide +kernel
    have h2 : PyData.strOk "turn" = true := by decide +kernel
    cases s with
    | turn =>
      refine ⟨by simp [PyData.canLayAll0, PyData.canLay0, stpD, a, h2], ?_, by simp [PyData.plainAll, PyData.plain, stpD, c]⟩
      simp [PyData.depthAll, PyData.depth, stpD]
      omega
    | meet bb n =>
      refine ⟨by simp [PyData.canLayAll0, PyData.canLay0, stpD, a, h1], ?_, by simp [PyData.plainAll, PyData.plain, stpD, c]⟩
      simp [PyData.depthAll, PyData.depth, stpD]
      omega
theorem stpD_shaped (ss : List Stp) : SeqAt.shaped (.list (ss.map stpD)) = true := by
  obtain ⟨a, b, _⟩ := stpD_lay ss
  have : PyData.depth (.list (ss.map stpD)) ≤ 2 := by
    simp [PyData.depth]
    omega
  simp [SeqAt.shaped, PyData.canLay0, a]
  omega
theorem count_turns : ∀ ss : List Stp, ((ss.map stpD).countP fun z => PyData.eqv z (.tuple [.str "turn"])) = turnsF ss
  | [] => rfl
  | s :: ss => by
    have ih := count_turns ss
    rw [List.map_cons, List.countP_cons, ih]
    cases s with
    | turn =>
      have e : PyData.eqv (stpD .turn) (.tuple [.str "turn"]) = true := eqv_turn
      rw [e]
      rfl
    | meet b n =>
      have e : PyData.eqv (stpD (.meet b n)) (.tuple [.str "turn"]) = false := eqv_meet b n
      rw [e]
      rfl
end Cc

/-! Own rule: a list from its end to its beginning, xs[::-1]. -/
namespace Cc
open PySem PySem.Spec PyProof.Rows L2
def tRev (K : PySem.W.Frag) (te : TE) : TE := fun σ H Q => te σ H fun x H1 => ∃ (a : Addr) (xs : List V), x = .ref a ∧ SqL K H1 a xs ∧ ∀ p, H1 p = none → Q (.ref p) (upd H1 p (.lst xs.reverse))
theorem pe_rev {X : Cx} {e : Expr} {te : TE} {pos p2 pc pu : Pos} (he : PE X e te) : PE X (.Subscript e (.Slice none none (some (.UnaryOp .USub (.Constant (.int 1) 0 pc) pu)) p2) pos) (tRev X.K te) := by
  refine ⟨fun pins s σ H Q I h => ?_⟩
  refine Subscript_ (thn (he.run pins s σ H _ I h) fun v s1 ⟨x, H1, I1, r1, a, xs, ex, hx, q1⟩ => ?_)
  subst ex
  have st : PO X (some (Expr.UnaryOp .USub (.Constant (.int 1) 0 pc) pu)) (tPart (tUn (rU fun i => .int (-i)) (tC (.int 1)))) := po_some (pe_un un_neg pe_int)
  refine wpAny_Slice (thn (po_none.run pins s1 σ H1 (fun l H2 => l = none ∧ H2 = H1) I1 ⟨rfl, rfl⟩) fun vl s2 ⟨l, H2, I2, pl, el, eH⟩ => ?_)
  subst el
  subst eH
  refine thn (po_none.run pins s2 σ H2 (fun l H3 => l = none ∧ H3 = H2) I2 ⟨rfl, rfl⟩) fun vu s3 ⟨u, H3, I3, pu', eu, eH⟩ => ?_
  subst eu
  subst eH
  refine thn (st.run pins s3 σ H3 (fun l H4 => l = some (-1) ∧ H4 = H3) I3 ⟨1, rfl, -1, rfl, rfl, rfl⟩) fun vk s4 ⟨k, H4, I4, pk, ek, eH⟩ => ?_
  subst ek
  subst eH
  have I5 : Inv X pins σ H4 { s4 with heap := s4.heap.push { cls := .type "slice", data := .fields #[vl, vu, vk] } } := I4.kept (t' := s4.toks) fun b ob q => Heap.get?_push_of_some _ q
  cases r1
  obtain ⟨its, r, ht, hz⟩ := I5.list hx; have hlen := r.length
  show wpAny (model X.prog X.w) X.A (subscriptTail e (.Slice none none (some (.UnaryOp .USub (.Constant (.int 1) 0 pc) pu)) p2) (.ref a) (.ref s4.heap.objs.size)) (EP X pins σ Q) X.xe { s4 with heap := s4.heap.push { cls := .type "slice", data := .fields #[vl, vu, vk] } }
  refine tail_any (ops := [.ref a, .ref s4.heap.objs.size]) ht.isList.typeIs slot_list_getitem.lookup ?_ (by with_unfolding_all rfl)
  refine wpAny_getItem_list_slice ht.isList (Heap.IsSliceOf.new ..) pl pu' pk (by simp) ?_ (by rw [List.size_toArray] <;> omega)
  rw [PySem.W.krv_pick]
  refine ⟨.ref _, _, I5.laid (t' := s4.toks) (o := .lst xs.reverse) (fun b ob q => Heap.get?_push_of_some _ q) (Nat.le_refl _) ?_, rfl, q1 _ (I5.hok.fresh (Nat.le_refl _))⟩
  refine ⟨by rw [List.length_reverse]; omega, its.toArray.toList.reverse, 0, by simpa using r.reverse, Heap.get?_push_size _ rfl⟩
/-- o.m() by a positional promise -/
theorem pe_methR0 {X : Cx} {CX : CXT} {k : Nat} {C f : Addr} {m : Str} {sp : Sp} {E : XK} {o : Expr} {ta : TE} {apos pos : Pos} {pl : Sem Bool} (he : PE X o ta) (c : Cls X.K C) (hm : Meth X.K C m f)
    (F : FnR X.prog X.w X.K X.mg X.base CX k f sp) (hr : Room k X.A) (hx : Passes CX X E) (ht : eval (.Call (.Attribute o m apos) [] [] pos) X.env = (do
      let ov ← eval o X.env
      standAt apos.atName
      let (f, first) ← holding [ov] (getMethod ov m pl); callWith pos f first (backTo pos (starEach [] X.env)) (backToKw pos (keywordEach [] X.env))) := by rfl) :
    PE X (.Call (.Attribute o m apos) [] [] pos) (tMethR C m sp E ta tNil) := by
  refine ⟨fun pins s σ H Q I h => PySem.W.methodCall_KW (pl := pl) (thn (he.run pins s σ H _ I h) fun u s1 ⟨x, H1, I1, rx, a, dx, fs, ex, ea, l, q⟩ => ?_) ht⟩
  subst ex
  obtain rfl : u = Value.ref a := rx
  exact getmeth_ok I1 ea c hm l (PySem.W.callWith_K0 (first := [.ref a]) I1.kIn hm.kp (wpAny_call (run_fnR (us := [.ref a]) (vs := [.ref a]) F hr hx I1 (.cons rfl .nil) q)))
end Cc

/-! isinstance of a caught error that bears a field. -/
namespace Cc
open PySem PySem.Spec PySem.Calls PyProof.Rows L2
open PySem.W (findIn specialIn takesIn subIn hasDictIn mroIn clsIn kitOne)
section
variable {prog : Program} {w : World} {A : Around} {E : Value → Shared → Prop} {K : PySem.W.Frag} {x D : Addr} {ox od : Obj}
/-- what its class is, asked of the error -/
theorem err_class {s : Shared} {Q : Option Value → Shared → Prop} (C : ExcC K D) (X : K.In s.heap) (I : PySem.W.InstAt s.heap x ox D (some od)) (h : Q (some (.ref D)) { s with toks := s.toks + 1 }) : wpAny (model prog w) A (getAttr? (.ref x) "__class__") Q E s := by
  have hc : (clsIn K D).isSome = true := let ⟨_, e, _⟩ := PySem.W.any_some C.hd; by rw [e]; rfl
  have hf := PySem.W.findObj_data (od := od) hc C.ha C.hn C.ht
  obtain ⟨hp, g, d, t, os⟩ := s
  have ty := I.type (M := model prog w)
  have at1 := PySem.W.looks_findIn (M := model prog w) X C.hg
  have at2 := PySem.W.looks_findIn (M := model prog w) X C.hk
  have at3 := PySem.W.looks_find (M := model prog w) X I hf
  have isE : PySem.W.Looks (model prog w) hp (isInstance (.ref x) (.type "BaseException")) true := ty.andThen (PySem.W.looks_subIn X C.hs)
  have no : ¬ (onTheHeap (Value.ref D) && Value.builtin "BaseException.__getattribute__" == Value.builtin "object.__getattribute__") = true := by rw [show (Value.builtin "BaseException.__getattribute__" == Value.builtin "object.__getattribute__") = false by decide +kernel]; simp
  unfold getAttr? getAttrBy? getAttrBy; refine wpAny_bind (wpAny_mkText (wpAny_bind (wpAny_attempt (wpAny_holding (wpAny_bind (ty.at (wpAny_bind (at1.at ?_))))))))
  show wpAny _ _ (if (onTheHeap (Value.ref D) && Value.builtin "BaseException.__getattribute__" == Value.builtin "object.__getattribute__") = true then _ else _) _ _ _; rw [if_neg no]
  unfold getAttrByItsOwn hookBefore; refine wpAny_bind ?_; rw [if_pos (show onTheHeap (Value.ref D) = true from rfl)]
  refine at2.at (wpAny_bind (wpAny_attempt (wpAny_holding ?_)))
  unfold callGetattribute; rw [show (false && onTheHeap (Value.builtin "BaseException.__getattribute__")) = false from rfl, if_neg Bool.false_ne_true]
  unfold boundAndCalled; rw [PySem.F.excAttr_ValueError.ga.bind (.ref x)]; refine wpAny_bind (wpAny_pure ?_)
  show wpAny _ _ (call (.builtin "BaseException.__getattribute__") [.ref x, .str "__class__" t]) _ _ _; refine wpAny_call (codeAny_call_builtin PySem.F.excAttr_ValueError.ga.plain PySem.F.entry_bexc_ga (@PySem.W.check_slot (model prog w) _ _ ⟨hp, g, d, t + 1, os⟩ "BaseException.__getattribute__" "BaseException" "__getattribute__" (.ref x) [.str "__class__" t] [] _ (by decide +kernel) (by decide +kernel) isE (PySem.F.args_bexc_ga (.ref x) (.str "__class__" t)) ?_))
  unfold Builtin.«object.__getattribute__»; refine wpAny_bind (wpAny_of_eq (a := ((Value.ref x : Value), [Value.str "__class__" t])) (by first | rfl | (simp only [slotArgs]; rfl)) (wpAny_bind (wpAny_pure (wpAny_bind (ty.at (wpAny_bind (at3.at ?_)))))))
  show wpAny _ _ (holding [Value.builtin "object.__class__"] (call (.builtin "getset_descriptor.__get__") [.builtin "object.__class__", .ref x, .ref D]) >>= ret) _ _ _; refine wpAny_bind (wpAny_holding (wpAny_call (PySem.W.class_get (s := ⟨hp, g, d, t + 1, os⟩) (ox := ox) (od := some od) X I C.hm (wpAny_pure ?_))))
  show wpAny _ _ (handedOut (.ref D)) _ _ _; rw [PySem.W.handedOut_of (v := .ref D) rfl]
  first | exact wpAny_pure (wpAny_pure h) | exact wpAny_pure h | exact wpAny_pure (wpAny_bind (wpAny_pure (wpAny_pure h)))
theorem cls_self (hd : hasDictIn K D = true) (t : PySem.W.typeIn K (.ref D) = some (.type "type")) (h : subIn K (.ref D) (.ref D) = some true) : PySem.W.kitCls K (.ref D) (.ref D) = some true := by
  have i2 : (clsIn K D).isSome = true := let ⟨_, e, _⟩ := PySem.W.any_some hd; by rw [e]; rfl
  unfold PySem.W.kitCls
  simp only [i2, t, h]
  rfl
theorem err_kit (C : ExcC K D) (t : PySem.W.typeIn K (.ref D) = some (.type "type")) (hs : subIn K (.ref D) (.ref D) = some true) : PySem.W.KitX K (.ref x) (.ref D) (fun h => PySem.W.InstAt h x ox D (some od)) where
  ty := fun _ _ _ I => I.type
  it := fun _ _ X _ => (PySem.W.kit_cls X (cls_self C.hd t hs)).2.1
  ne := (PySem.W.handS_kitx_exc (x := x) (ox := ox) C.hg C.hk C.hs C.hd C.ha C.hn C.ht C.hm).ne
  ca := fun X I k => err_class C X I k
end
/-- isinstance(e, c), e the error that the suite holds, dd its dict -/
def rIsF (K : PySem.W.Frag) (D a dd : Addr) : List V → Hp → VK → Prop := fun xs H Q => ∃ (c : V) (cv : Value) (b : Bool), xs = [.ref a, c] ∧ (∃ fs, H dd = some (.xd fs)) ∧ (∀ u, RelV c u → u = cv) ∧ kitOne K (.ref D) cv = some b ∧ Q (.bl b) H
theorem call_isF {X : Cx} {a D dd : Addr} {oe : Obj} {pn : List (Addr × Obj)} (C : ExcC X.K D) (t : PySem.W.typeIn X.K (.ref D) = some (.type "type")) (hs : subIn X.K (.ref D) (.ref D) = some true) (hz : Zc (.ref D) (some dd) oe) (hf : ∃ vs, oe.data = .fields vs) : CallR (X.suite a ((a, oe) :: pn)) (.builtin "isinstance") (rIsF X.K D a dd) := by
  intro pins s σ H xs us Q I r ⟨c, cv, b, ex, ⟨fs, ed⟩, hcv, e, q⟩
  subst ex
  match us, r with
  | [_, u], .cons rx (.cons rt .nil) =>
    cases rx
    have ec := hcv _ rt
    subst ec
    obtain ⟨hget, _⟩ := I.pin (a, oe) (List.mem_append_left _ List.mem_cons_self)
    obtain ⟨vs, hv⟩ := hf
    obtain ⟨mA, hns, _⟩ := (show ObjOk X.prog X.w H s.heap dd (.xd fs) from I.hok dd _ ed)
    obtain ⟨od, ho, _⟩ := lookIn_ns hns
    have J : PySem.W.InstAt s.heap a oe D (some od) := ⟨hget, hz.1, by unfold PySem.W.notCls; rw [hv] <;> rfl, by rw [hz.2]; exact ho⟩
    exact PySem.W.kia_one (err_kit C t hs) I.kIn J e (fun z => nomatch z) fun tk => ⟨.bl b, H, I.kept (t' := tk) fun _ _ z => z, rfl, q⟩
/-- .. with a field or without one -/
def rIsG (K : PySem.W.Frag) (D a : Addr) (d : Option Addr) : List V → Hp → VK → Prop := fun xs H Q => ∃ (c : V) (cv : Value) (b : Bool), xs = [.ref a, c] ∧ (∀ dd, d = some dd → ∃ fs, H dd = some (.xd fs)) ∧ (∀ u, RelV c u → u = cv) ∧ kitOne K (.ref D) cv = some b ∧ Q (.bl b) H
theorem call_isG {X : Cx} {a D : Addr} {d : Option Addr} {oe : Obj} {pn : List (Addr × Obj)} (C : ExcC X.K D) (t : PySem.W.typeIn X.K (.ref D) = some (.type "type")) (hs : subIn X.K (.ref D) (.ref D) = some true) (hz : Zc (.ref D) d oe) (hf : ∃ vs, oe.data = .fields vs) : CallR (X.suite a ((a, oe) :: pn)) (.builtin "isinstance") (rIsG X.K D a d) := by
  intro pins s σ H xs us Q I r ⟨c, cv, b, ex, ed, hcv, e, q⟩
  cases d with
  | none => exact call_isE C hz hf pins s σ H xs us Q I r ⟨c, cv, b, ex, hcv, e, q⟩
  | some dd => exact call_isF C t hs hz hf pins s σ H xs us Q I r ⟨c, cv, b, ex, ed dd rfl, hcv, e, q⟩
end Cc

namespace Cc
open PySem PySem.Spec PyProof.Rows L2
/-- where the nine classes of errors stand -/
structure Nine (mg : Str → Option Value) (e0 e1 e2 e3 e4 e5 e6 e7 e8 : Addr) : Prop where
  t0 : mg "DaybookError" = some (.ref e0)
  t1 : mg "DecodeError" = some (.ref e1)
  t2 : mg "InvalidBooking" = some (.ref e2)
  t3 : mg "InvalidNumber" = some (.ref e3)
  t4 : mg "InvalidOperation" = some (.ref e4)
  t5 : mg "InvalidPlan" = some (.ref e5)
  t6 : mg "InvalidText" = some (.ref e6)
  t7 : mg "NotEnough" = some (.ref e7)
  t8 : mg "TooFewChairs" = some (.ref e8)
/-- one of them, asked which it is -/
structure KindA (K : PySem.W.Frag) (D e0 e1 e2 e3 e4 e5 e6 e7 e8 : Addr) (b0 b1 b2 b3 b4 b5 b6 b7 b8 : Bool) : Prop where
  ec : ExcC K D
  xf : XfC K D
  tt : PySem.W.typeIn K (.ref D) = some (.type "type")
  ss : PySem.W.subIn K (.ref D) (.ref D) = some true
  nI : PySem.W.findIn K (.ref D) "index" = some none
  nR : PySem.W.findIn K (.ref D) "row" = some none
  nO : PySem.W.findIn K (.ref D) "offset" = some none
  k0 : PySem.W.kitOne K (.ref D) (.ref e0) = some b0
  k1 : PySem.W.kitOne K (.ref D) (.ref e1) = some b1
  k2 : PySem.W.kitOne K (.ref D) (.ref e2) = some b2
  k3 : PySem.W.kitOne K (.ref D) (.ref e3) = some b3
  k4 : PySem.W.kitOne K (.ref D) (.ref e4) = some b4
  k5 : PySem.W.kitOne K (.ref D) (.ref e5) = some b5
  k6 : PySem.W.kitOne K (.ref D) (.ref e6) = some b6
  k7 : PySem.W.kitOne K (.ref D) (.ref e7) = some b7
  k8 : PySem.W.kitOne K (.ref D) (.ref e8) = some b8
  kv : PySem.W.kitOne K (.ref D) (.type "ValueError") = some true
abbrev words9 : List V := [.str "daybook", .str "code", .str "booking", .str "number", .str "operation", .str "plan", .str "text", .str "enough", .str "few"]
/-- the flags say kind j, whose word is wd -/
structure Flags (b0 b1 b2 b3 b4 b5 b6 b7 b8 : Bool) (j : Nat) (wd : Str) : Prop where
  one : (List.countP (fun z => PyData.eqv z (.bool true)) [PyData.bool b0, .bool b1, .bool b2, .bool b3, .bool b4, .bool b5, .bool b6, .bool b7, .bool b8]) = 1
  sh : SeqAt.shaped (.list [PyData.bool b0, .bool b1, .bool b2, .bool b3, .bool b4, .bool b5, .bool b6, .bool b7, .bool b8]) = true
  pl : PyData.plainAll [PyData.bool b0, .bool b1, .bool b2, .bool b3, .bool b4, .bool b5, .bool b6, .bool b7, .bool b8] = true
  at_ : [PyData.bool b0, .bool b1, .bool b2, .bool b3, .bool b4, .bool b5, .bool b6, .bool b7, .bool b8][j]? = some (.bool true)
  no : ∀ m z, m < j → [PyData.bool b0, .bool b1, .bool b2, .bool b3, .bool b4, .bool b5, .bool b6, .bool b7, .bool b8][m]? = some z → PyData.eqv z (.bool true) = false
  wd : words9[j]? = some (.str wd)
theorem flags_few : Flags false false false false false false false false true 8 "few" := ⟨by decide +kernel, by decide +kernel, by decide +kernel, rfl, fun m z hm hz => by
  match m, hm with
  | 0, _ => cases hz; decide +kernel
  | 1, _ => cases hz; decide +kernel
  | 2, _ => cases hz; decide +kernel
  | 3, _ => cases hz; decide +kernel
  | 4, _ => cases hz; decide +kernel
  | 5, _ => cases hz; decide +kernel
  | 6, _ => cases hz; decide +kernel
  | 7, _ => cases hz; decide +kernel, rfl⟩
theorem flags_enough : Flags false false false false false false false true false 7 "enough" := ⟨by decide +kernel, by decide +kernel, by decide +kernel, rfl, fun m z hm hz => by
  match m, hm with
  | 0, _ => cases hz; decide +kernel
  | 1, _ => cases hz; decide +kernel
  | 2, _ => cases hz; decide +kernel
  | 3, _ => cases hz; decide +kernel
  | 4, _ => cases hz; decide +kernel
  | 5, _ => cases hz; decide +kernel
  | 6, _ => cases hz; decide +kernel, rfl⟩
theorem flags_number : Flags false false false true false false false false false 3 "number" := ⟨by decide +kernel, by decide +kernel, by decide +kernel, rfl, fun m z hm hz => by
  match m, hm with
  | 0, _ => cases hz; decide +kernel
  | 1, _ => cases hz; decide +kernel
  | 2, _ => cases hz; decide +kernel, rfl⟩
theorem flags_booking : Flags false false true false false false false false false 2 "booking" := ⟨by decide +kernel, by decide +kernel, by decide +kernel, rfl, fun m z hm hz => by
  match m, hm with
  | 0, _ => cases hz; decide +kernel
  | 1, _ => cases hz; decide +kernel, rfl⟩
end Cc

/-! Generators that a comprehension drains: its list S grows, its own names (at C) change while the generator sleeps; a for with a yield. -/
namespace Cc
open PySem PySem.Spec PyProof.Rows L2 GenW
/-- names stand in such an object at C -/
def LocO (C : Addr) (o : Obj) : Prop := (∃ m, ∀ h : Heap, h.get? C = some o → h.Ns C m) ∧ ∀ v, o.data ≠ .cell v
/-- what the consumer does between two items -/
structure Nap (S C : Addr) (v : Value) (s s' : Shared) : Prop where
  os : s'.os = s.os
  bare : AllBare s'.gens
  keep : ∀ b o, b ≠ S → b ≠ C → s.heap.get? b = some o → s'.heap.get? b = some o
  grow : ∀ vs n, s.heap.get? S = some (lstObj vs n) → ∃ n', s'.heap.get? S = some (lstObj (vs.push v) n')
  loc : ∃ o, LocO C o ∧ s'.heap.get? C = some o
def Run (X : Cx) (S C : Addr) (ip : List (Addr × Obj)) (ys : List V) (σ : L2.St) (H : Hp) (s : Shared) : Prop := ∃ o, LocO C o ∧ GI X S ((C, o) :: ip) ys σ H s
/-- the two lie apart from the generator's own -/
structure Far (X : Cx) (S C : Addr) (ip : List (Addr × Obj)) : Prop where
  ne : S ≠ C
  aS : Apart X S
  aC : Apart X C
  pS : ∀ p ∈ X.pn ++ ip, p.1 ≠ S
  pC : ∀ p ∈ X.pn ++ ip, p.1 ≠ C
theorem Run.woken {X : Cx} {S C : Addr} {ip : List (Addr × Obj)} {ys : List V} {x : V} {v : Value} {σ : L2.St} {H : Hp} {s s' : Shared} (F : Far X S C ip) (h : Run X S C ip ys σ H s) (rv : RelV x v) (z : Nap S C v s s') : Run X S C ip (ys ++ [x]) σ H s' := by
  obtain ⟨o, ho, acc, c, r, I⟩ := h
  obtain ⟨eS, nS, lS, fS, _⟩ := I.pin (S, lstObj acc c) (List.mem_append_right _ List.mem_cons_self)
  obtain ⟨eC, nC, lC, fC, _⟩ := I.pin (C, o) (List.mem_append_right _ (List.mem_cons_of_mem _ List.mem_cons_self))
  have I0 : Inv X ip σ H s := I.pins_of fun p hp => I.pin p (List.mem_append_right _ (List.mem_cons_of_mem _ (List.mem_cons_of_mem _ hp)))
  obtain ⟨z1, z2, z3, z4, o', ho', eC'⟩ := z
  obtain ⟨cS, eS'⟩ := z4 acc c eS
  obtain ⟨hq, gq, dq, tq, os⟩ := s'
  cases (show os = s.os from z1)
  have far : ∀ b, b ∉ [S, C] → b ≠ S ∧ b ≠ C := fun b hb => ⟨fun e => hb (by rw [e]; exact List.mem_cons_self), fun e => hb (by rw [e]; exact List.mem_cons_of_mem _ List.mem_cons_self)⟩
  have old : ∀ b ob, b ∉ [S, C] → s.heap.get? b = some ob → hq.get? b = some ob := fun b ob hb q => z3 b ob (far b hb).1 (far b hb).2 q
  have tr : ∀ b u, H b = some u → b ≠ S ∧ b ≠ C := fun b u q => ⟨fun e => (by rw [e, nS] at q; cases q), fun e => (by rw [e, nC] at q; cases q)⟩
  have J : Inv X ip σ H { s with heap := hq, gens := gq, drawn := dq, toks := tq } := by
    refine I0.step (g' := gq) (t' := tq) (d' := dq) (ch := [S, C]) (fun b hb => ?_) (fun b ob _ _ hc q _ => old b ob hc q) (fun b ob _ _ hc q _ => ⟨ob.slots, old b ob hc q⟩) (fun _ _ _ _ n => n)
      (fun b ob hc q => ⟨ob, old b ob hc q⟩) (fun _ _ q => q) (fun _ _ _ q => q) (fun b ps q => ⟨#[], by rw [q]; simp⟩) (fun m hm => ?_) (fun b u q => ?_) z2
    · rcases List.mem_cons.mp hb with e | e
      · rw [e]
        exact ⟨.inr F.aS.1, F.aS.2.1, F.aS.2.2, F.pS⟩
      · have e2 := List.mem_singleton.mp e
        rw [e2]
        exact ⟨.inr F.aC.1, F.aC.2.1, F.aC.2.2, F.pC⟩
    · obtain ⟨ob, es, ep, hob, rest⟩ := hm
      exact ⟨ob, es, ep, z3 _ ob (Ne.symm lS) (Ne.symm lC) hob, rest⟩
    · refine (I0.hok b u q).stay (fun e w hc y => ?_) (fun _ y => y) fun _ _ y => y
      have ne : e ≠ S ∧ e ≠ C := by
        rcases hc with y | y
        · rw [y]
          exact tr b u q
        · exact tr e _ y
      exact z3 e w ne.1 ne.2 y
  refine ⟨o', ho', acc.push v, cS, ?_, J.pins_of fun p hp => ?_⟩
  · rw [Array.toList_push]
    exact r.append (.cons rv (.nil))
  · rcases List.mem_cons.mp hp with e | hp
    · rw [e]
      exact ⟨eS', nS, lS, fS, fun v q => by cases q⟩
    · rcases List.mem_cons.mp hp with e | hp
      · rw [e]
        exact ⟨eC', nC, lC, fC, ho'.2⟩
      · exact J.pin p (List.mem_append.mpr (.inr hp))
/-! ### the protocol -/
def YP (X : Cx) (S C : Addr) : Protocol := fun n s₀ v s kap => ∃ ys x ip σ H, n + 1 + ys.length = sizeLine ∧ RelV x v ∧ Run X S C ip ys σ H s ∧ ∀ s', Nap S C v s s' → kap (.send .none) s'
def RP (X : Cx) (S C : Addr) (Q : List V → VK) (F : Value → Shared → Prop) : GenEnd := fun n s₀ r s => match r with
  | .ok (.ret u) => ∃ ys v ip σ H, n + ys.length = sizeLine ∧ Run X S C ip ys σ H s ∧ RelV v u ∧ Q ys v H
  | .ok _ => False
  | .error e => F e s
def FlowP (X : Cx) (S C : Addr) (ip : List (Addr × Obj)) (D : GEnds) (ys : List V) (f : Flow) (s : Shared) : Prop :=
  match f with
  | .next => ∃ σ H, Run X S C ip ys σ H s ∧ D.nx ys σ H
  | .brk => ∃ σ H, Run X S C ip ys σ H s ∧ D.bk ys σ H
  | .cont => ∃ σ H, Run X S C ip ys σ H s ∧ D.ct ys σ H
  | .ret u => ∃ v σ H, Run X S C ip ys σ H s ∧ RelV v u ∧ D.rt ys v H
structure Here (X : Cx) (S C : Addr) (ip : List (Addr × Obj)) (A : Around) (c : Code) (fs : List Frame) (gd : Bool → Bool) : Prop where
  far : Far X S C ip
  over : A.over c fs = X.A
  split : splitAtGen fs = none
  bare : fs.any Frame.guarded = false
  gd : gd false = false
structure Then (X : Cx) (S C : Addr) (ip : List (Addr × Obj)) (A : Around) (R : GenEnd) (c : Code) (fs : List Frame) (K : Flow → Sem PySem.Fin) (J : Value → Sem PySem.Fin) (D : GEnds) : Prop where
  ok : ∀ (n : Nat) (ys : List V) (s₀ s : Shared) (f : Flow), n + ys.length = sizeLine → FlowP X S C ip D ys f s → Seg (model X.prog X.w) A R (YP X S C) n s₀ c (K f) fs s
  exc : ∀ (n : Nat) (s₀ : Shared) (e : Value) (s : Shared), X.xe e s → Seg (model X.prog X.w) A R (YP X S C) n s₀ c (J e) fs s
/-- a tree of the body, wrapped, runs so -/
def Goes (X : Cx) (T : Sem Flow) (t : TGn) : Prop :=
  ∀ (A : Around) (S C : Addr) (ip : List (Addr × Obj)) (R : GenEnd) (n : Nat) (ys : List V) (s₀ : Shared) (c : Code) (fs : List Frame) (K : Flow → Sem PySem.Fin) (J : Value → Sem PySem.Fin) (gd : Bool → Bool) (lv : List Value → List Value) (s : Shared) (σ : L2.St) (H : Hp) (D : GEnds),
    Here X S C ip A c fs gd → n + ys.length = sizeLine → Then X S C ip A R c fs K J D → Run X S C ip ys σ H s → t D ys σ H → Seg (model X.prog X.w) A R (YP X S C) n s₀ c (T.wrap K J gd lv) fs s
section
variable {st : Stmt} {rest : List Stmt} {X : Cx}
theorem flow_of {S C : Addr} {acc : Array Value} {c : Nat} {o : Obj} {ip : List (Addr × Obj)} {s : Shared} {D : GEnds} {ys : List V} {f : Flow} (ho : LocO C o) (r : Vals ys acc.toList) (h : SP X ((S, lstObj acc c) :: (C, o) :: ip) (D.at ys) f s) : FlowP X S C ip D ys f s := by
  cases f with
  | ret u =>
    obtain ⟨v, σ, H, I, r1, q⟩ := h
    exact ⟨v, σ, H, ⟨o, ho, acc, c, r, I⟩, r1, q⟩
  | next =>
    obtain ⟨σ, H, I, q⟩ := h
    exact ⟨σ, H, ⟨o, ho, acc, c, r, I⟩, q⟩
  | brk =>
    obtain ⟨σ, H, I, q⟩ := h
    exact ⟨σ, H, ⟨o, ho, acc, c, r, I⟩, q⟩
  | cont =>
    obtain ⟨σ, H, I, q⟩ := h
    exact ⟨σ, H, ⟨o, ho, acc, c, r, I⟩, q⟩
theorem gb_plain {t : TS} (h : PS X st t) : Goes X (exec st X.env) (tPlain t) := by
  intro A S C ip R n ys s₀ c fs K J gd lv s σ H D g hn k hI ht
  obtain ⟨o, ho, acc, cc, r, I⟩ := hI
  refine seg_wrap ?_
  rw [g.over]
  exact wpAny_mono (h.run _ s σ H (D.at ys) I ht) (fun f s' q => k.ok n ys s₀ s' f hn (flow_of ho r q)) fun x s' q => k.exc n s₀ x s' q
theorem gb_nil : Goes X (execs [] X.env) tG0 := by
  intro A S C ip R n ys s₀ c fs K J gd lv s σ H D g hn k hI ht
  refine seg_execs_nil ?_
  exact k.ok n ys s₀ s .next hn ⟨σ, H, hI, ht⟩
theorem gb_cons {t u : TGn} (a : Goes X (exec st X.env) t) (b : Goes X (execs rest X.env) u) : Goes X (execs (st :: rest) X.env) (tGThen t u) := by
  intro A S C ip R n ys s₀ c fs K J gd lv s σ H D g hn k hI ht
  refine seg_execs_cons (a A S C ip R n ys s₀ c fs _ J gd lv s σ H { D with nx := fun ys' σ' H' => u D ys' σ' H' } g hn ⟨fun n' ys' s₀' s' f hn' q => ?_, k.exc⟩ hI ht)
  cases f with
  | next =>
    obtain ⟨σ', H', I', q⟩ := q
    exact b A S C ip R n' ys' s₀' c fs K J gd lv s' σ' H' D g hn' k I' q
  | ret u => exact k.ok n' ys' s₀' s' (.ret u) hn' q
  | brk => exact k.ok n' ys' s₀' s' .brk hn' q
  | cont => exact k.ok n' ys' s₀' s' .cont hn' q
theorem gb_yield {e : Expr} {yp pos : Pos} {te : TE} (he : PE X e te) (hco : X.env.scope.isCoroutine = false := by rfl) (hi : interactive X.env = false := by rfl) : Goes X (exec (.Expr (.Yield (some e) yp) pos) X.env) (tGYield te) := by
  intro A S C ip R n ys s₀ c fs K J gd lv s σ H D g hn k hI ht
  obtain ⟨room, ht⟩ := ht
  obtain ⟨n, rfl⟩ : ∃ j, n = j + 1 := ⟨n - 1, by omega⟩
  obtain ⟨o, ho, acc, cc, r, I⟩ := hI
  refine seg_Expr_Yield g.split g.gd g.bare ?_ hco hi
  rw [g.over]
  refine wpAny_mono (he.run _ s σ H _ I ht) (fun v s' hv => ?_) fun x s' q => k.exc _ s₀ x s' q
  obtain ⟨y, H1, I1, rv, q⟩ := hv
  have G1 : Run X S C ip ys σ H1 s' := ⟨o, ho, acc, cc, r, I1⟩
  refine fun kap hk => ⟨ys, y, ip, σ, H1, hn, rv, G1, fun s2 z => hk .none s2 (k.ok n (ys ++ [y]) s2 s2 .next ?_ ⟨σ, H1, G1.woken g.far rv z, q⟩)⟩
  rw [List.length_append]
  show n + (ys.length + 1) = _
  omega
end
/-! ### a for amid -/
section
variable {prog : Program} {w : World} {A : Around} {R : GenEnd} {Y : Protocol} {n : Nat} {s₀ s : Shared} {fs : List Frame} {env : Env} {tg : Expr} {it : Value} {body : List Stmt}
/-- an exception out of the loop's code -/
abbrev outX (env : Env) (e : Value) : Sem PySem.Fin := (do noteFrame e env; theTreesLotGoes e : Sem Unit).wrap (fun _ => .raise e) .raise id id
theorem seg_turn (h : wpAny (model prog w) (A.over (.forLoop tg it body [] env) fs) (pyNext it) (fun r s1 => match r with
      | none => Seg (model prog w) A R Y n s₀ (.block [] env) ((model prog w).den (.block [] env)) fs s1
      | some v => wpAny (model prog w) (A.over (.forLoop tg it body [] env) fs) (letOwnedTupleGo tg it v) (fun _ s2 => wpAny (model prog w) (A.over (.forLoop tg it body [] env) fs) (assign tg env v) (fun _ s3 =>
          Seg (model prog w) A R Y n s₀ (.forLoop tg it body [] env) ((execs body env).wrap (fun f => match f with
            | .next | .cont => .pure (.again (.forLoop tg it body [] env))
            | .brk => .pure (.done .next)
            | .ret v => .pure (.done (.ret v))) (outX env) id id) fs s3)
          (fun x s' => Seg (model prog w) A R Y n s₀ (.forLoop tg it body [] env) (outX env x) fs s') s2)
          (fun x s' => Seg (model prog w) A R Y n s₀ (.forLoop tg it body [] env) (outX env x) fs s') s1)
      (fun x s' => Seg (model prog w) A R Y n s₀ (.forLoop tg it body [] env) (outX env x) fs s') s) :
    Seg (model prog w) A R Y n s₀ (.forLoop tg it body [] env) ((model prog w).den (.forLoop tg it body [] env)) fs s := by
  show Seg _ A R Y n s₀ _ ((forTurn tg it body [] env).onRaise (fun x => do noteFrame x env; theTreesLotGoes x)) fs s
  have ex : ∀ (x : Value) (s' : Shared), Seg (model prog w) A R Y n s₀ (.forLoop tg it body [] env) (outX env x) fs s' → Seg (model prog w) A R Y n s₀ (.forLoop tg it body [] env) ((do noteFrame x env; theTreesLotGoes x : Sem Unit).bind fun _ => .raise x) fs s' := fun x s' q => by
    rw [Sem.bind_eq_wrap]
    exact q
  rw [Sem.onRaise_eq_wrap]
  unfold forTurn
  refine seg_bind_wrap (wpAny_standAt (seg_bind_wrap (wpAny_onRaise (wpAny_mono h (fun r s1 h1 => ?_) fun x s' q => wpAny_standAt (ex x s' q)))))
  cases r with
  | none => exact seg_again rfl h1
  | some v =>
    refine seg_bind_wrap (wpAny_mono h1 (fun _ s2 h2 => ?_) fun x s' q => ex x s' q)
    refine seg_bind_wrap (wpAny_mono h2 (fun _ s3 h3 => ?_) fun x s' q => ex x s' q)
    rw [Sem.bind_eq_wrap', Sem.wrap_wrap]
    exact Eq.mpr (congrArg (fun t => Seg (model prog w) A R Y n s₀ (.forLoop tg it body [] env) t fs s3) (Sem.wrap_congr (execs body env) id id (fun f => by cases f <;> rfl) fun e => Sem.bind_eq_wrap _ _)) h3
end
section
variable {X : Cx}
theorem here_in {S C : Addr} {ip : List (Addr × Obj)} {A : Around} {c c' : Code} {fs : List Frame} {gd : Bool → Bool} {k : Result → Sem PySem.Fin} {l kp : List Value} {p : Pos} (g : Here X S C ip A c fs gd) (hw : c'.weight = 0) (hu : c'.cUnits = 0) {ip' : List (Addr × Obj)} (hf : Far X S C ip') :
    Here X S C ip' A c' (.ret k none (gd false) l c p kp :: fs) id := by
  refine ⟨hf, (over_loop hw hu).trans g.over, ?_, ?_, rfl⟩
  · change (splitAtGen fs).map _ = none
    rw [g.split]
    rfl
  · change (gd false || fs.any Frame.guarded) = false
    rw [g.gd, g.bare]
    rfl
theorem seg_back {S C : Addr} {ip : List (Addr × Obj)} {A : Around} {R : GenEnd} {c : Code} {fs : List Frame} {K : Flow → Sem PySem.Fin} {J : Value → Sem PySem.Fin} {gd : Bool → Bool} {lv : List Value → List Value} {D : GEnds} {n : Nat} {s₀ s : Shared} {e : Value}
    (g : Here X S C ip A c fs gd) (k : Then X S C ip A R c fs K J D) (h : cameBackBy (model X.prog X.w) X.A X.env X.xe e s) :
    Seg (model X.prog X.w) A R (YP X S C) n s₀ c (((Sem.raise e : Sem Flow).onRaise (cameBack X.env)).wrap K J gd lv) fs s := by
  show Seg _ _ _ _ n s₀ c (((cameBack X.env e).bind fun _ => (Sem.raise e : Sem Flow)).wrap K J gd lv) fs s
  rw [Sem.bind_eq_wrap (cameBack X.env e), Sem.wrap_wrap]
  refine seg_wrap ?_
  rw [g.over]
  refine wpAny_mono h (fun _ s2 q => ?_) fun x s2 q => k.exc n s₀ x s2 q
  exact k.exc n s₀ e s2 q
def tGFor (wi : TI) (g : TG) (tb : TGn) : TGn := fun D ys σ H => wi σ H fun J H1 => ∃ W : Nat → Nat → List V → L2.St → Hp → Prop, (∃ m, W 0 m ys σ H1) ∧ ∀ i m ys σ H, W i m ys σ H →
  (J.stop i H ∧ D.nx ys σ H) ∨ (J.go i H ∧ ∃ N : List V → L2.St → Hp → Prop, (∀ ys' σ' H', N ys' σ' H' → ∃ m', m' < m ∧ W (i + 1) m' ys' σ' H') ∧ ∀ x H', J.yld i H x H' → g x σ H' fun σ2 H2 => tb { D with nx := N, ct := N, bk := D.nx } ys σ2 H2)
theorem Run.unpin {S C : Addr} {ip : List (Addr × Obj)} {fp : List Addr} {h : Heap} {ys : List V} {σ : L2.St} {H : Hp} {s : Shared} (q : Run X S C (ip ++ pinsAt fp h) ys σ H s) : Run X S C ip ys σ H s :=
  let ⟨o, ho, acc, c, r, I⟩ := q
  ⟨o, ho, acc, c, r, (show Inv X (((S, lstObj acc c) :: (C, o) :: ip) ++ pinsAt fp h) σ H s from I).unpinned⟩
theorem gb_for {tg iter : Expr} {body : List Stmt} {wi : TI} {g : TG} {tb : TGn} {pos : Pos} (hp : PassesOwn (model X.prog X.w) X.A X.env X.xe) (hc : X.calm = true) (hi : PI X tg iter wi) (hg : PG X tg g) (hb : Goes X (execs body X.env) tb)
    (hs : ∀ x, foldedSetIterable iter X.env x = pure x := by intro _; rfl) : Goes X (exec (.For tg iter body [] pos) X.env) (tGFor wi g tb) := by
  intro A S C ip R n ys s₀ c fs K J gd lv s σ H D gh hn k hI ht
  obtain ⟨o, ho, acc, cc, r, I⟩ := hI
  rw [exec_For]
  refine seg_bind_wrap (wpAny_standAt (seg_bind_wrap ?_))
  rw [gh.over]
  refine wpAny_mono (hi.run _ s σ H _ I ht) (fun v s1 h1 => ?_) fun x s' q => k.exc n s₀ x s' q
  refine seg_bind_wrap (wpAny_of_eq (hs v) (seg_bind_wrap (wpAny_standAt (seg_bind_wrap (wpAny_holding ?_)))))
  rw [gh.over]
  refine wpAny_mono h1 (fun itv s2 h2 => ?_) fun x s' q => k.exc n s₀ x s' q
  obtain ⟨it, fp, tn, Jt, H2, e, I2, T, st2, f2, W, ⟨m0, w0⟩, turn⟩ := h2
  subst e
  refine seg_call fun p => ?_
  -- where the iterator's own objects lie
  have apart : ∀ b ∈ fp, (b ≠ X.env.locals ∧ b ∉ X.fs ∧ (b ∈ X.ex ∨ X.s_0.heap.objs.size ≤ b) ∧ ∀ x c, X.env.cells.lookup x = some c → c ≠ b) ∧ S ≠ b ∧ C ≠ b ∧ ∀ q ∈ X.pn ++ ip, q.1 ≠ b := fun b hb => by
    obtain ⟨_, z1, z2, z3, z4, z5⟩ := f2 b hb
    refine ⟨⟨z1, z2, z3, z4⟩, z5 (S, lstObj acc cc) (List.mem_append_right _ List.mem_cons_self), z5 (C, o) (List.mem_append_right _ (List.mem_cons_of_mem _ List.mem_cons_self)), fun q hq => ?_⟩
    rcases List.mem_append.mp hq with y | y
    · exact z5 q (List.mem_append_left _ y)
    · exact z5 q (List.mem_append_right _ (List.mem_cons_of_mem _ (List.mem_cons_of_mem _ y)))
  have stat : ∀ {acc' : Array Value} {c' : Nat} {o' : Obj} {H' : Hp}, (∀ b ∈ fp, H' b = none) → ∀ b ∈ fp, FpOk X ((S, lstObj acc' c') :: (C, o') :: ip) H' b := fun {acc' c' o' H'} hn b hb => by
    obtain ⟨⟨z1, z2, z3, z4⟩, z5, z6, z7⟩ := apart b hb
    refine ⟨hn b hb, z1, z2, z3, z4, fun q hq => ?_⟩
    rcases List.mem_append.mp hq with y | y
    · exact z7 q (List.mem_append_left _ y)
    · rcases List.mem_cons.mp y with y | y
      · rw [y]
        exact z5
      · rcases List.mem_cons.mp y with y | y
        · rw [y]
          exact z6
        · exact z7 q (List.mem_append_right _ y)
  have farP : ∀ h : Heap, Far X S C (ip ++ pinsAt fp h) := fun h => by
    have ofP : ∀ q ∈ X.pn ++ (ip ++ pinsAt fp h), q ∈ X.pn ++ ip ∨ q.1 ∈ fp := fun q hq => by
      rcases List.mem_append.mp hq with y | y
      · exact .inl (List.mem_append_left _ y)
      · rcases List.mem_append.mp y with y | y
        · exact .inl (List.mem_append_right _ y)
        · refine .inr ?_
          unfold pinsAt at y
          obtain ⟨b, hb, eb⟩ := List.mem_filterMap.mp y
          cases eo : h.get? b with
          | none =>
            rw [eo] at eb
            cases eb
          | some ob =>
            rw [eo] at eb
            cases eb
            exact hb
    exact ⟨gh.far.ne, gh.far.aS, gh.far.aC, fun q hq => (ofP q hq).elim (gh.far.pS q) fun y => (apart q.1 y).2.1.symm, fun q hq => (ofP q hq).elim (gh.far.pC q) fun y => (apart q.1 y).2.2.1.symm⟩
  have hl := fun (kk : Result → Sem PySem.Fin) (ip' : List (Addr × Obj)) (hf : Far X S C ip') => here_in (k := kk) (c' := .forLoop tg (.ref it) body [] X.env) (l := lv []) (kp := []) (p := p) gh rfl rfl hf
  have loop : ∀ (m n i : Nat) (ys : List V) (s₀ s : Shared) (σ : L2.St) (H : Hp), n + ys.length = sizeLine → W i m ys σ H → Run X S C ip ys σ H s → tn i s.heap → (∀ b ∈ fp, H b = none) →
      Seg (model X.prog X.w) A R (YP X S C) n s₀ (.forLoop tg (.ref it) body [] X.env) ((model X.prog X.w).den (.forLoop tg (.ref it) body [] X.env))
        (.ret (fun z => ((match z with | .ok f => (.pure f : Sem Flow) | .error e => .raise e).onRaise (cameBack X.env)).wrap K J gd lv) none (gd false) (lv []) c p [] :: fs) s := by
    intro m
    refine Nat.strongRecOn m fun m ih => ?_
    · intro n i ys s₀ s σ H hn w ⟨o, ho, acc, cc, r, I⟩ st fr
      have ee : ∀ (n : Nat) (s₀ : Shared) (x : Value) (s' : Shared), X.xe x s' → Seg (model X.prog X.w) A R (YP X S C) n s₀ (.forLoop tg (.ref it) body [] X.env) (outX X.env x)
          (.ret (fun z => ((match z with | .ok f => (.pure f : Sem Flow) | .error e => .raise e).onRaise (cameBack X.env)).wrap K J gd lv) none (gd false) (lv []) c p [] :: fs) s' := fun n s₀ x s' hx => by
        refine seg_wrap ?_
        rw [(hl _ ip gh.far).over]
        refine wpAny_bind (wpAny_mono (hp x s' hx) (fun _ s2 q => wpAny_theTreesLotGoes ?_) fun y s2 q => ?_)
        · exact seg_leaf (.error x) (seg_back gh k q)
        · exact seg_leaf (.error y) (seg_back gh k q)
      refine seg_turn ?_
      rw [(hl _ ip gh.far).over]
      rcases turn i m ys σ H w with ⟨halt, q⟩ | ⟨go, N, hN, step⟩
      · refine wpAny_mono (T.done X rfl rfl rfl hc i _ s σ H X.xe I (stat fr) st halt) (fun z s4 ⟨hz, I4⟩ => ?_) fun x s' q => ee n s₀ x s' q
        subst hz
        exact seg_leaf (.ok .next) (k.ok n ys s₀ s4 .next hn ⟨σ, H, ⟨o, ho, acc, cc, r, I4⟩, q⟩)
      · refine wpAny_mono (T.item X rfl rfl rfl hc i _ s σ H X.xe I (stat fr) st go) (fun z s4 ⟨u, hz, h4⟩ => ?_) fun x s' q => ee n s₀ x s' q
        subst hz
        refine wpAny_mono h4 (fun _ s5 ⟨x, H5, I5, r5, y5, st5, fr5⟩ => ?_) fun x s' q => ee n s₀ x s' q
        refine wpAny_mono (hg.run _ s5 σ H5 x u _ (I5.pinned (stat fr5) (T.obj _ _ st5)) r5 (step x H5 y5)) (fun _ s6 ⟨σ6, H6, I6, q6⟩ => ?_) fun x s' q => ee n s₀ x s' q
        have next : ∀ {n' : Nat} {ys' : List V} {s₀' s7 : Shared}, n' + ys'.length = sizeLine → (∃ σ' H', Run X S C (ip ++ pinsAt fp s5.heap) ys' σ' H' s7 ∧ N ys' σ' H') →
            Seg (model X.prog X.w) A R (YP X S C) n' s₀' (.forLoop tg (.ref it) body [] X.env) (.pure (.again (.forLoop tg (.ref it) body [] X.env)))
              (.ret (fun z => ((match z with | .ok f => (.pure f : Sem Flow) | .error e => .raise e).onRaise (cameBack X.env)).wrap K J gd lv) none (gd false) (lv []) c p [] :: fs) s7 := fun {n' ys' s₀' s7} hn' ⟨σ7, H7, R7, n7⟩ => by
          obtain ⟨m', hm, w7⟩ := hN ys' σ7 H7 n7
          have pin7 : ∀ b ∈ fp, ∀ ob, s5.heap.get? b = some ob → s7.heap.get? b = some ob ∧ H7 b = none := fun b hb ob e => by
            obtain ⟨o7, ho7, acc7, c7, r7, I7⟩ := R7
            have z := I7.pin (b, ob) (List.mem_append_right _ (List.mem_cons_of_mem _ (List.mem_cons_of_mem _ (List.mem_append_right _ (mem_pinsAt hb e)))))
            exact ⟨z.1, z.2.1⟩
          refine seg_again rfl (ih m' hm n' (i + 1) ys' s₀' s7 σ7 H7 hn' w7 R7.unpin (T.keep _ _ _ st5 fun b hb ob e => (pin7 b hb ob e).1) fun b hb => ?_)
          obtain ⟨ob, e, _⟩ := T.obj _ _ st5 b hb
          exact (pin7 b hb ob e).2
        refine hb A S C (ip ++ pinsAt fp s5.heap) R n ys s₀ _ _ _ _ id id s6 σ6 H6 { D with nx := N, ct := N, bk := D.nx } (hl _ _ (farP s5.heap)) hn ⟨fun n' ys' s₀' s7 f hn' q => ?_, fun n' s₀' x s7 q => ee n' s₀' x s7 q⟩ ⟨o, ho, acc, cc, r, I6⟩ q6
        cases f with
        | next => exact next hn' q
        | cont => exact next hn' q
        | brk =>
          obtain ⟨σ7, H7, R7, q⟩ := q
          exact seg_leaf (.ok .next) (k.ok n' ys' s₀' s7 .next hn' ⟨σ7, H7, R7.unpin, q⟩)
        | ret u =>
          obtain ⟨v7, σ7, H7, R7, r7, q⟩ := q
          exact seg_leaf (.ok (.ret u)) (k.ok n' ys' s₀' s7 (.ret u) hn' ⟨v7, σ7, H7, R7.unpin, r7, q⟩)
  exact loop m0 n 0 ys s₀ s2 σ H2 hn w0 ⟨o, ho, acc, cc, r, I2⟩ st2 fun b hb => (f2 b hb).1
end
end Cc

/-! A generator def that raises nothing, drained by a comprehension [x for x in f(..)]. -/
namespace Cc
open PySem PySem.Spec PyProof.Rows L2 GenW
/-- no exception is promised -/
abbrev noE : XK := fun _ _ _ => False
/-- arguments, the heap, what is wanted of all items and the heap at the end -/
abbrev SpY := List V → Hp → (List V → Hp → Prop) → Prop
def StopY (P : Program) (w : World) (outer : List Env) (H : Hp) (s : Shared) (S C : Addr) (Q : List V → Hp → Prop) (s1 : Shared) : Prop :=
  ∃ H' ys acc c oC, s1.os = s.os ∧ AllBare s1.gens ∧ Un (frs outer) [] H H' s.heap s1.heap ∧ HOk P w H' s1.heap ∧ (H' S = none ∧ s1.heap.get? S = some (lstObj acc c)) ∧ (Vals ys acc.toList ∧ ys.length ≤ sizeLine) ∧ (H' C = none ∧ LocO C oC ∧ s1.heap.get? C = some oC) ∧ Q ys H'
def EndY (P : Program) (w : World) (outer : List Env) (H : Hp) (s : Shared) (S C a : Addr) (g : Nat) (Q : List V → Hp → Prop) : GenEnd := fun n s₀ r s1 =>
  ((r = .ok (.ret .none) ∨ r = .ok .next) ∧ StopY P w outer H s S C Q s1) ∨ ∃ e, r = .error e ∧ False
def ItemY (s : Shared) (S C a : Addr) (g : Nat) : Protocol := fun n s₀ v s1 kap =>
  s1.os = s.os ∧ AllBare s1.gens ∧ s1.heap.NoLimit ∧ s1.heap.IsGen a g ∧ (∃ (acc : Array Value) (c : Nat), s1.heap.get? S = some (lstObj acc c) ∧ n + 1 + acc.size = sizeLine) ∧ (∃ oC, LocO C oC ∧ s1.heap.get? C = some oC) ∧ ∀ s', Nap S C v s1 s' → kap (.send .none) s'
/-- a generator that has not begun -/
def MadeY (P : Program) (w : World) (k : Nat) (outer : List Env) (H : Hp) (s : Shared) (Q : List V → Hp → Prop) (u : Value) (s' : Shared) : Prop :=
  ∃ (a : Addr) (g : Nat) (c : Code), u = .ref a ∧ (s.heap.objs.size ≤ a ∧ a < s'.heap.objs.size) ∧ s'.heap.IsGen a g ∧ s'.gens[g]? = some (.fresh c) ∧ s'.os = s.os ∧ AllBare s'.gens ∧ s'.heap.NoLimit ∧ (∀ b o, s.heap.get? b = some o → s'.heap.get? b = some o) ∧
    ∀ (A : Around) (S C : Addr) (s2 : Shared), Room k A → A.frames = some outer → s'.heap.objs.size ≤ S → s'.heap.objs.size ≤ C → S ≠ C → (∀ b o, s'.heap.get? b = some o → s2.heap.get? b = some o) → (∃ c, s2.heap.get? S = some (lstObj #[] c)) → (∃ o, LocO C o ∧ s2.heap.get? C = some o) → s2.os = s.os → AllBare s2.gens →
      Seg (model P w) A (EndY P w outer H s S C a g Q) (ItemY s S C a g) sizeLine s2 c ((model P w).den c) [] s2
structure GenY (P : Program) (w : World) (K : PySem.W.Frag) (mg : Str → Option Value) (base : Heap) (k : Nat) (f : Addr) (fd : FuncData) (ps : List Str) (sp : SpY) : Prop where
  len : ∀ vs H Q, sp vs H Q → vs.length = ps.length
  run : ∀ (A : Around) (outer : List Env) (s : Shared) (H : Hp) (args : Args) (us : List Value) (vs : List V) (Q : List V → Hp → Prop), Room k A → Env0 P w K mg base A outer s H → BindsTo s fd args (ps.zip us) → Vals vs us → sp vs H Q →
    codeAny (model P w) A (.call (.ref f) args) (fun r s' => match r with | .ok (.ret u) => MadeY P w k outer H s Q u s' | _ => False) s
theorem geny_of {P : Program} {w : World} {K : PySem.W.Frag} {mg : Str → Option Value} {base : Heap} {k : Nat} {f : Addr} {name qual : Str} {params : Arguments} {body : List Stmt} {scope : Scope} {dV kV doc pm cdv ct oc : Value} {an od : Option Addr}
    {osl : Array (Option Value)} {N ps : List Str} {sp : SpY} (lk : K.lookup f = some ⟨oc, od, .func (PySem.W.fnOf name qual params body scope dV kV doc pm an cdv ct), osl⟩) (hcd : PySem.W.codeIn K cdv qual = true) (G : GScope N ps scope) (len : ∀ vs H Q, sp vs H Q → vs.length = ps.length)
    (hbody : ∀ (A : Around) (outer : List Env) (s : Shared) (H : Hp) (vs : List V) (Q : List V → Hp → Prop) (pn : List (Addr × Obj)), Room k (A.deeper (envOfC qual scope s.heap.objs.size f cdv)) → sp vs H Q →
      ∃ t, Goes (gcxOf P w K mg base N qual scope f cdv A outer s H noE pn) (execs body (gcxOf P w K mg base N qual scope f cdv A outer s H noE pn).env) t ∧ t { nx := fun ys _ H' => Q ys H', rt := fun ys v H' => v = .non ∧ Q ys H' } [] (start N vs) H) :
    GenY P w K mg base (k + 1) f (PySem.W.fnOf name qual params body scope dV kV doc pm an cdv ct) ps sp := by
  refine ⟨len, fun A outer s H args us vs Q hr e0 hb r hsp => ?_⟩
  have hl := len _ _ _ hsp
  have inK : K.In s.heap := e0.mod.kin.keeps fun b o e => (e0.bs b o e).1
  have nolim : s.heap.NoLimit := e0.mod.nolimit.keeps fun b o e => (e0.bs b o e).1
  refine codeAny_call_generator hr.depth (inK _ _ lk) rfl G.co G.gen rfl (PySem.W.codeRec_of inK hcd) (hb _ _ _ _ ?_)
  refine wpAny_newFunctionEnv_cells G.kind (fun ⟨y, v⟩ hy => (G.par y (List.of_mem_zip hy).1).imp id fun q => ⟨q, PySem.W.cellsFrom_some _ _ _ (.inl q)⟩) fun env he s1 x => ?_
  subst he
  have nolim1 : s1.heap.NoLimit := nolim.keeps x.toInCall.keep
  refine ⟨nolim1, ?_⟩
  obtain ⟨h1, tk1, es1, hk1⟩ := x.done
  have osE : s1.os = s.os := by rw [es1]
  have genE : s1.gens = s.gens := by rw [es1]
  have ltE : s.heap.objs.size < s1.heap.objs.size := x.toInCall.ns.lt
  have main : ∀ (gob : Obj) (n1 n2 : Value) (tk2 : Nat), gob.cls = .type "generator" → gob.data = .fields #[.int s1.gens.size 0, n1, n2] → gob.slots = #[] → (∀ h : Heap, (h.push gob).get? h.objs.size = some gob) →
      MadeY P w (k + 1) outer H s Q (.ref s1.heap.objs.size) { s1 with gens := s1.gens.push (.fresh (.func body (envOfC qual scope s.heap.objs.size f cdv))), toks := tk2, heap := s1.heap.push gob } := by
    intro gob n1 n2 tk2 y1 y2 y3 y4
    have isG : ∀ h : Heap, h.get? s1.heap.objs.size = some gob → h.IsGen s1.heap.objs.size s1.gens.size := fun h e => ⟨gob, n1, n2, e, y1, y2, y3⟩
    refine ⟨s1.heap.objs.size, s1.gens.size, _, rfl, ⟨Nat.le_of_lt ltE, ?_⟩, isG _ (y4 _), Array.getElem?_push_size .., osE, ?_, nolim1.keeps fun b o e => Heap.get?_push_of_some _ e, fun b o e => Heap.get?_push_of_some _ (x.toInCall.keep b o e), ?_⟩
    · show s1.heap.objs.size < (s1.heap.push gob).objs.size
      rw [Heap.size_push]
      exact Nat.lt_succ_self _
    · exact AllBare.push (by rw [genE]; exact e0.bare) rfl
    intro Aw S C s2 hrw hfr hS hC hSC old hSo hCo hos hba
    have e2 : Env0 P w K mg base Aw outer s H := ⟨hfr, e0.mod, e0.bs, e0.bsz, e0.funs, e0.frf, e0.hok, e0.bare⟩
    obtain ⟨t, ht, hq⟩ := hbody Aw outer s H vs Q [(s1.heap.objs.size, gob)] (hrw.deeper _) hsp
    have I1 : Inv (gcxOf P w K mg base N qual scope f cdv Aw outer s H noE []) [] (start N vs) H s1 := inv_startG G hrw.hd e2 hl r x
    have old1 : ∀ b o, s1.heap.get? b = some o → s2.heap.get? b = some o := fun b o e => old b o (Heap.get?_push_of_some _ e)
    have I2 : Inv (gcxOf P w K mg base N qual scope f cdv Aw outer s H noE []) [] (start N vs) H s2 :=
      I1.call' (ch := []) (hos.trans osE.symm) (Un.kept old1) (I1.hok.kept old1) hba fun b z => nomatch z
    have above : ∀ b, (s1.heap.push gob).objs.size ≤ b → s1.heap.objs.size < b := fun b hb => by
      rw [Heap.size_push] at hb
      exact hb
    have ltS := above S hS
    have ltC := above C hC
    obtain ⟨cS, eS⟩ := hSo
    obtain ⟨oC, hoC, eC⟩ := hCo
    have young : ∀ b, s1.heap.objs.size ≤ b → H b = none ∧ b ≠ s.heap.objs.size ∧ b ∉ frs outer ∧ s.heap.objs.size ≤ b ∧ ∀ y c, (cellsFrom (s.heap.objs.size + 1) scope.names []).lookup y = some c → c ≠ b := fun b hb =>
      ⟨I1.hok.fresh hb, Nat.ne_of_gt (Nat.lt_of_lt_of_le ltE hb), I1.nofs hb, Nat.le_trans (Nat.le_of_lt ltE) hb, fun y c e z => by
        obtain ⟨v, ox, hox, _⟩ := I1.cell y c e
        have lt := Heap.lt_size hox
        rw [z] at lt
        exact Nat.lt_irrefl _ (Nat.lt_of_lt_of_le lt hb)⟩
    have ap : ∀ b, s1.heap.objs.size < b → Apart (gcxOf P w K mg base N qual scope f cdv Aw outer s H noE [(s1.heap.objs.size, gob)]) b := fun b hb =>
      let ⟨_, z2, _, z4, z5⟩ := young b (Nat.le_of_lt hb)
      ⟨z4, z2, z5⟩
    have far : Far (gcxOf P w K mg base N qual scope f cdv Aw outer s H noE [(s1.heap.objs.size, gob)]) S C [] :=
      ⟨hSC, ap S ltS, ap C ltC, fun p hp => by rw [List.mem_singleton.mp hp]; exact Nat.ne_of_lt ltS, fun p hp => by rw [List.mem_singleton.mp hp]; exact Nat.ne_of_lt ltC⟩
    have R0 : Run (gcxOf P w K mg base N qual scope f cdv Aw outer s H noE [(s1.heap.objs.size, gob)]) S C [] [] (start N vs) H s2 := by
      refine ⟨oC, hoC, #[], cS, .nil, Inv.pinnedG I2 fun p hp => ?_⟩
      rcases List.mem_append.mp hp with zl | zr
      · rw [List.mem_singleton.mp zl]
        obtain ⟨z1, z2, z3, _⟩ := young s1.heap.objs.size (Nat.le_refl _)
        exact ⟨old _ _ (y4 _), z1, z2, z3, fun v q => by rw [y2] at q; cases q⟩
      · rcases List.mem_cons.mp zr with zh | zt
        · rw [zh]
          obtain ⟨z1, z2, z3, _⟩ := young S (Nat.le_of_lt ltS)
          exact ⟨eS, z1, z2, z3, fun v q => by cases q⟩
        · rw [List.mem_singleton.mp zt]
          obtain ⟨z1, z2, z3, _⟩ := young C (Nat.le_of_lt ltC)
          exact ⟨eC, z1, z2, z3, hoC.2⟩
    -- what a state of the run tells
    have told : ∀ {ip : List (Addr × Obj)} {ys : List V} {s' : Shared} {σ' : L2.St} {H' : Hp}, Run (gcxOf P w K mg base N qual scope f cdv Aw outer s H noE [(s1.heap.objs.size, gob)]) S C ip ys σ' H' s' →
        s'.os = s.os ∧ AllBare s'.gens ∧ s'.heap.NoLimit ∧ s'.heap.IsGen s1.heap.objs.size s1.gens.size ∧ Un (frs outer) [] H H' s.heap s'.heap ∧ HOk P w H' s'.heap ∧ ∃ acc c o, (H' S = none ∧ s'.heap.get? S = some (lstObj acc c)) ∧ Vals ys acc.toList ∧ (H' C = none ∧ LocO C o ∧ s'.heap.get? C = some o) := fun {ip ys s' σ' H'} ⟨o, ho, acc, c, ra, J⟩ => by
      have zS := J.pin (S, lstObj acc c) (List.mem_append_right _ List.mem_cons_self)
      have zC := J.pin (C, o) (List.mem_append_right _ (List.mem_cons_of_mem _ List.mem_cons_self))
      exact ⟨J.os, J.bare, J.nolimit, isG _ (J.pin (s1.heap.objs.size, gob) (List.mem_append_left _ List.mem_cons_self)).1, J.base, J.hok, acc, c, o, ⟨zS.2.1, zS.1⟩, ra, zC.2.1, ho, zC.1⟩
    refine seg_func (seg_imp (R := RP (gcxOf P w K mg base N qual scope f cdv Aw outer s H noE [(s1.heap.objs.size, gob)]) S C (fun ys v H' => v = .non ∧ Q ys H') fun _ _ => False)
      (Y := YP (gcxOf P w K mg base N qual scope f cdv Aw outer s H noE [(s1.heap.objs.size, gob)]) S C) (fun n s₀ r s3 hR => ?_) (fun n s₀ v s3 kap kap' hkk hY => ?_) sizeLine ?_)
    · cases r with
      | error e => exact hR.elim
      | ok fl =>
        cases fl with
        | next => exact hR.elim
        | brk => exact hR.elim
        | cont => exact hR.elim
        | ret u =>
          obtain ⟨ys, v, ip, σz, H', hn, hI, rv, ev, hQ⟩ := hR
          subst ev
          cases (show u = Value.none from rv)
          obtain ⟨t1, t2, _, _, t5, t6, acc, c, o, t7, t8, t9⟩ := told hI
          exact .inl ⟨.inl rfl, H', ys, acc, c, o, t1, t2, t5, t6, t7, ⟨t8, by omega⟩, t9, hQ⟩
    · obtain ⟨ys, xx, ip, σ', H', hn, _, hI, h3⟩ := hY
      obtain ⟨t1, t2, t3, t4, _, _, acc, c, o, t7, t8, t9⟩ := told hI
      have many : acc.size = ys.length := by
        have z1 := t8.length
        rw [Array.length_toList] at z1
        exact z1.symm
      exact ⟨t1, t2, t3, t4, ⟨acc, c, t7.2, by rw [many]; exact hn⟩, ⟨o, t9.2⟩, fun s' z => hkk _ _ (h3 s' z)⟩
    · refine ht Aw S C [] _ sizeLine [] s2 _ [] _ _ id id s2 (start N vs) H _ ⟨far, over_func, rfl, rfl, rfl⟩ (Nat.add_zero _) ⟨fun n ys s₀ s' fl hn hs => ?_, fun n s₀ e s' hx => ?_⟩ R0 hq
      · cases fl with
        | next =>
          obtain ⟨σ', H', hI, hQ⟩ := hs
          exact seg_end (.ok (.ret .none)) ⟨ys, .non, _, σ', H', hn, hI, rfl, rfl, hQ⟩
        | ret u =>
          obtain ⟨v, σz, H', hI, rv, ev, hQ⟩ := hs
          exact seg_end (.ok (.ret u)) ⟨ys, v, _, σz, H', hn, hI, rv, ev, hQ⟩
        | brk => exact hs.elim fun _ q => q.elim fun _ q => q.2.elim
        | cont => exact hs.elim fun _ q => q.elim fun _ q => q.2.elim
      · refine seg_wrap ?_
        rw [over_func]
        refine wpAny_mono (show wpAny (model P w) (Aw.deeper (envOfC qual scope s.heap.objs.size f cdv)) (leaving (envOfC qual scope s.heap.objs.size f cdv) e) (fun _ s3 => CX P w outer H s noE e s3 ∧ ∀ p ∈ [(s1.heap.objs.size, gob)], s3.heap.get? p.1 = some p.2) (fun _ _ => False) s' from hx) (fun _ s3 q => ?_) fun _ s3 q => q.elim
        obtain ⟨⟨_, _, _, _, _, _, _, _, _, _, _, _, z⟩, _⟩ := q
        exact z.elim
  exact main _ _ _ _ rfl rfl rfl fun _ => Heap.get?_push_size _ rfl
section
variable {X : Cx} {k : Nat}
structure PGenY (X : Cx) (k : Nat) (e : Expr) (tg : TGen) : Prop where
  run : ∀ (pins : List (Addr × Obj)) (s : Shared) (σ : L2.St) (H : Hp) (cont : List V → Hp → Prop), Inv X pins σ H s → tg σ H cont → wpAny (model X.prog X.w) X.A (eval e X.env) (fun u s' => ∃ H1 sc, Inv X pins σ H1 sc ∧ MadeY X.prog X.w k X.stack H1 sc cont u s') X.xe s
def tCallY (sp : SpY) (t : TA) : TGen := fun σ H cont => t σ H fun vs H1 => sp vs H1 cont
theorem pgy_call {f : Addr} {fd : FuncData} {ps : List Str} {sp : SpY} {x : Str} {p pos' : Pos} {e : Expr} {es : List Expr} {t : TA} (F : GenY X.prog X.w X.K X.mg X.base k f fd ps sp) (hr : Room k X.A) (hg : Gl X x) (hm : X.mg x = some (.ref f)) (hk : PySem.W.keepIn X.K (.ref f) = true) (hb : Binds X.K fd ps [])
    (ha : PA X (e :: es) t) (he : starEach (e :: es) X.env = (false, eval e X.env) :: starEach es X.env := by rfl) (hpl : (backTo pos' (starEach es X.env)).any (·.1) = false := by rfl) (hdb : (x == ("__debug__" : Str)) = false := by decide) :
    PGenY X k (.Call (.Name x p) (e :: es) [] pos') (tCallY sp t) := by
  refine ⟨fun pins s σ H cont I h => wpAny_Call_Name_kw (ld_glob I hg hm ?_ hdb)⟩
  refine PySem.W.callWith_K (h₀ := X.base) I.ok.mod.kin hk (thn (ha.run pos' pins s σ H _ I h) fun us z1 ⟨vs, H1, I1, r, q⟩ => ⟨I1.kIn, ?_⟩) he hpl
  have hl : us.length = ps.length := by
    rw [← r.length]
    exact F.len _ _ _ q
  have bt := hb z1 us I1.kIn (by rw [List.append_nil]; exact hl)
  rw [List.append_nil] at bt
  refine wpAny_call (codeAny_mono (F.run X.A X.stack z1 H1 ⟨us, []⟩ us vs cont hr I1.env0 bt r q) fun z s2 hz => ?_)
  cases z with
  | error e => exact hz.elim
  | ok fl =>
    cases fl with
    | ret u => exact ⟨H1, z1, I1, hz⟩
    | next => exact hz.elim
    | brk => exact hz.elim
    | cont => exact hz.elim
theorem lcY_core {pins : List (Addr × Obj)} {s : Shared} {σ : L2.St} {H : Hp} {Q : VK} {e : Expr} {tg : TGen} {x : Str} {p1 p2 pos pos' : Pos} {sc : Scope} {own : List (Str × Nat)} {use : Option (Value → Sem Unit)} {Qf : Value → Shared → Prop} (hgen : PGenY X k e tg) (hr : Room (k + 1) X.A) (hN : X.N.Nodup) (ok : BlkOk X.N X.env.scope sc own) (hx : sc.names.lookup x = some .local)
    (hdb : (x == ("__debug__" : Str)) = false) (hs : ∀ y, foldedSetIterable e X.env y = pure y) (I : Inv X pins σ H s) (h : tListG tg σ H Q)
    (hRR : ∀ D C z m G, Inv X pins σ G z → Q (.ref D) G → z.heap.Ns C m → FpOk X pins G C → compPost (model X.prog X.w) X.A X.xe use Qf (.ref D) C (.ok .next) z) :
    wpAny (model X.prog X.w) X.A (comprehension (.ListComp (.Name x p1) [⟨.Name x p2, e, [], 0⟩] sc pos) sc X.env pos' (newList []) false (eval e X.env) use) Qf X.xe s := by
  have frees : ∀ y ∈ sc.names, y.2 = .free → ∃ c, X.env.cells.lookup y.1 = some c := fun y hy e => I.ok.has _ ((ok.free y hy e).elim (fun a => .inl a) fun a => .inr a)
  refine wpAny_comprehension_free (use := use) rfl hs (closure_ok frees) ok.kind (fun y hy e => (ok.uniq y hy).trans (congrArg some e)) (thn (hgen.run pins s σ H _ I h) fun u s1 ⟨H1, sc0, I1, a, g, cd, eu, ⟨ge1, ge2⟩, hg, hgs, hos, hb, hl, old, wake⟩ => ?_)
  subst eu
  refine wpAny_pyIter_gen hg (wpAny_newObj_type (newEnv_comp ?_) (by show 0 ≤ sizeLine; decide))
  obtain ⟨D, hD⟩ : ∃ D, D = s1.heap.objs.size := ⟨_, rfl⟩
  rw [← hD]
  have I2 : Inv X pins σ H1 s1 := I1.call' (ch := []) hos (Un.kept old) (I1.hok.kept old) hb fun b z => nomatch z
  obtain ⟨s3, hs3⟩ : ∃ s3 : Shared, s3 = { s1 with heap := s1.heap.push { cls := .type "list", data := .seq ([] : List Value).toArray } } := ⟨_, rfl⟩
  have p3 : s3.heap = s1.heap.push { cls := .type "list", data := .seq ([] : List Value).toArray } := by rw [hs3]
  have keep3 : ∀ b o, s1.heap.get? b = some o → s3.heap.get? b = some o := fun b o e => by
    rw [p3]
    exact Heap.get?_push_of_some (h := s1.heap) _ e
  have at3 : s3.heap.get? D = some (lstObj #[] 0) := by
    rw [p3, hD]
    exact Heap.get?_push_size s1.heap rfl
  have I3 : Inv X pins σ (upd H1 D (.lst [])) s3 := by
    rw [hs3]
    refine I2.laid (t' := s1.toks) (fun b o e => Heap.get?_push_of_some _ e) (Nat.le_of_eq hD.symm) ⟨Nat.zero_le _, [], 0, .nil, ?_⟩
    rw [hD]
    exact Heap.get?_push_size s1.heap rfl
  have I4 := block_start (fp := []) I3 ok hN fun b hb => nomatch hb
  have goal : codeAny (model X.prog X.w) X.A (.compStart (.ListComp (.Name x p1) [⟨.Name x p2, e, [], 0⟩] sc pos) 0 (.ref a) (.ref D) (compEnvC sc (cellsFrom (s3.heap.objs.size + 1) sc.names (cloFrom X.env.cells sc.names [])) s3.heap.objs.size X.env))
      (compPost (model X.prog X.w) X.A X.xe use Qf (.ref D) s3.heap.objs.size) { s3 with heap := pushCells (s3.heap.push { cls := .type "dict", data := .dict #[] }) sc.names } := by
    have hkx : (compEnvC sc (cellsFrom (s3.heap.objs.size + 1) sc.names (cloFrom X.env.cells sc.names [])) s3.heap.objs.size X.env).kindOf x = some .local := lookup_relabel_local hx
    have hkf : (compEnvC sc (cellsFrom (s3.heap.objs.size + 1) sc.names (cloFrom X.env.cells sc.names [])) s3.heap.objs.size X.env).scope.kind = .function := ok.kind
    have hlo : (compEnvC sc (cellsFrom (s3.heap.objs.size + 1) sc.names (cloFrom X.env.cells sc.names [])) s3.heap.objs.size X.env).locals = s3.heap.objs.size := rfl
    obtain ⟨ce, hce⟩ : ∃ ce, ce = compEnvC sc (cellsFrom (s3.heap.objs.size + 1) sc.names (cloFrom X.env.cells sc.names [])) s3.heap.objs.size X.env := ⟨_, rfl⟩
    rw [← hce] at I4 hkx hkf hlo ⊢
    obtain ⟨C, hC⟩ : ∃ C, C = s3.heap.objs.size := ⟨_, rfl⟩
    rw [← hC] at hlo ⊢
    obtain ⟨m4, ns4, _⟩ := I4.loc
    have ns4 : (pushCells (s3.heap.push { cls := .type "dict", data := .dict #[] }) sc.names).Ns ce.locals m4 := ns4
    rw [hlo] at ns4
    have szD : s3.heap.objs.size = D + 1 := by rw [p3, Heap.size_push, hD]
    have nDC : D ≠ C := by
      rw [hC, szD]
      exact Nat.ne_of_lt (Nat.lt_succ_self D)
    have keep4 : ∀ b o, s3.heap.get? b = some o → (pushCells (s3.heap.push { cls := .type "dict", data := .dict #[] }) sc.names).get? b = some o := fun b o e => pushCells_keeps _ _ _ _ (Heap.get?_push_of_some _ e)
    obtain ⟨s4, hs4⟩ : ∃ s4 : Shared, s4 = { s3 with heap := pushCells (s3.heap.push { cls := .type "dict", data := .dict #[] }) sc.names } := ⟨_, rfl⟩
    have h4 : s4.heap = pushCells (s3.heap.push { cls := .type "dict", data := .dict #[] }) sc.names := by rw [hs4]
    have g4 : s4.gens = s1.gens := by rw [hs4, hs3]
    have o4 : s4.os = s1.os := by rw [hs4, hs3]
    rw [← hs4]
    rw [← h4] at ns4 keep4
    have old4 : ∀ b o, s1.heap.get? b = some o → s4.heap.get? b = some o := fun b o e => keep4 b o (keep3 b o e)
    have hg4 : s4.heap.IsGen a g := hg.keeps old4
    have locOf : ∀ {h : Heap} {m : Str → Option Value}, h.Ns C m → ∃ o, LocO C o ∧ h.get? C = some o := fun {h m} ⟨o, es, ep, e, ed, r⟩ => ⟨o, ⟨⟨m, fun h' e' => ⟨o, es, ep, e', ed, r⟩⟩, fun v q => by rw [ed] at q; cases q⟩, e⟩
    have naD : a ≠ D := Nat.ne_of_lt (by rw [hD]; exact ge2)
    have naC : a ≠ C := Nat.ne_of_lt (by rw [hC, szD, hD]; exact Nat.lt_succ_of_lt ge2)
    have lim0 : cStatics < s1.heap.objs.size := let ⟨_, hn, _⟩ := hl; hn.lt
    have nkD : cStatics ≠ D := by
      rw [hD]
      exact Nat.ne_of_lt lim0
    have nkC : cStatics ≠ C := by
      rw [hC, szD, hD]
      exact Nat.ne_of_lt (Nat.lt_succ_of_lt lim0)
    have loop : codeAny (model X.prog X.w) X.A (.compLoop (.ListComp (.Name x p1) [⟨.Name x p2, e, [], 0⟩] sc pos) 0 (.ref a) (.ref D) ce) (compPost (model X.prog X.w) X.A X.xe use Qf (.ref D) C) s4 := by
      refine compLoop_any (fun n z => ∃ gs, z.gens[g]? = some gs ∧ z.heap.IsGen a g ∧ z.heap.NoLimit ∧ gs.Goes (model X.prog X.w) X.A.in1 (EndY X.prog X.w X.stack H1 sc0 D C a g fun out H2 => ∀ p, H2 p = none → Q (.ref p) (upd H2 p (.lst out))) (ItemY sc0 D C a g) n (.send .none) (z.setGen g .running)) ?_ sizeLine
        ⟨.fresh cd, by rw [g4]; exact hgs, hg4, hl.keeps old4, rfl, ?_⟩
      · rintro n s5 ⟨gs, hgs5, hg5, hl5, hgo⟩
        have hgl : g < s5.gens.size := (Array.getElem?_eq_some_iff.mp hgs5).1
        refine wpAny_gsz (n := g + 1) hgl (next_genG (F := fun _ _ s₁ => StopY X.prog X.w X.stack H1 sc0 D C (fun out H2 => ∀ p, H2 p = none → Q (.ref p) (upd H2 p (.lst out))) s₁) (Er := fun _ _ => False) hr.hd hl5 (by have := hr.dp; omega) hg5 hgs5 hgo (fun v s6 gs' hbare hv hsz => ?_) (fun s6 hp h' hk _ => ?_) fun e s6 he => he.elim)
        · obtain ⟨t1, t2, t3, t4, ⟨acc, c, t5, t6⟩, ⟨oC, tC1, tC2⟩, kap⟩ := hv
          obtain ⟨⟨m6, hm6⟩, _⟩ := id tC1
          have ns6 : (s6.setGen g gs').heap.Ns ce.locals m6 := by
            rw [hlo]
            exact hm6 _ tC2
          refine wpAny_pure (wpAny_assign_Name (wpAny_storeName_local hkx ns6 (fun h7 ns7 sb7 => ?_) (by rw [hkf]; rfl)))
          refine wpAny_pure ?_
          refine ite_tt (wpAny_Name (wpAny_loadName_local hkf hkx ns7 (if_pos rfl) ?_) hdb)
          have pl7 : h7.PlainList D acc := ⟨c, (sb7.2 D (by rw [hlo]; exact nDC)).trans t5⟩
          refine wpAny_list_append_plain (s := { s6.setGen g gs' with heap := h7, toks := s6.toks + 1 }) pl7 (fun h8 pl8 sb8 => ?_) (by omega)
          obtain ⟨c8, e8⟩ := pl8
          have ns8 : h8.Ns C (fun y => if y = x then some v else m6 y) := (hlo ▸ ns7).sameBut sb8 nDC.symm
          have old8 : ∀ b o, b ≠ D → b ≠ C → s6.heap.get? b = some o → h8.get? b = some o := fun b o n1 n2 e => (sb8.2 b n1).trans ((sb7.2 b (by rw [hlo]; exact n2)).trans e)
          have hsz6 : g < s6.gens.size := by
            have q : (s6.setGen g gs').gens.size = s6.gens.size := setGen_size _ _ _
            have hsz' : g + 1 ≤ (s6.setGen g gs').gens.size := hsz
            omega
          have nap : Nap D C v s6 (({ s6.setGen g gs' with heap := h8, toks := s6.toks + 1 } : Shared).setGen g .running) :=
            ⟨rfl, allBare_setGen (s := { s6.setGen g gs' with heap := h8, toks := s6.toks + 1 }) (allBare_setGen t2 hbare) rfl, old8, fun acc' c' e' => by
              rw [t5] at e'
              cases e'
              exact ⟨c8, e8⟩, locOf ns8⟩
          have kp := kap _ nap
          match n, kp with
          | 0, kp => exact kp.elim
          | m + 1, kp =>
            refine ⟨m, Nat.lt_succ_self m, gs', setGen_at hsz6, ?_, ?_, kp⟩
            · obtain ⟨o, nm, qn, ho, r⟩ := t4
              exact ⟨o, nm, qn, old8 a o naD naC ho, r⟩
            · obtain ⟨mc, hns, hnn⟩ := t3
              exact ⟨mc, hns.at' fun o e => old8 _ o nkD nkC e, hnn⟩
        · obtain ⟨H', ys, acc, c, oC, t1, t2, t3, t4, ⟨t5, t6⟩, ⟨t7, t8⟩, ⟨t9, t10, t11⟩, t12⟩ := hp
          obtain ⟨⟨mC, hmC⟩, _⟩ := t10
          have le : sc0.heap.objs.size ≤ D := by
            rw [hD]
            exact Nat.le_trans ge1 (Nat.le_of_lt ge2)
          have J : Inv X pins σ (upd H' D (.lst ys)) { s6.setGen g .finished with heap := h' } :=
            I1.drained le t8 (hk _ _ t6) t7 ExOk.nil t1 (allBare_setGen t2 rfl) (t3.trans (Un.kept hk)) (t4.kept hk) t5
          exact hRR D C _ mC _ J (t12 D t5) (hmC _ (hk _ _ t11)) (I3.fpOk (b := C) (Nat.le_of_eq hC.symm) (H' := upd H' D (.lst ys)) (by rw [upd_ne nDC.symm]; exact t9))
      · refine wake X.A.in1 D C (s4.setGen g .running) ⟨hr.hd, ?_, ?_⟩ I1.ok.frames (Nat.le_of_eq hD.symm) (by rw [hC, szD, hD]; exact Nat.le_succ _) nDC old4 ⟨0, keep4 _ _ at3⟩ (locOf ns4) (o4.trans hos) (allBare_setGen (by rw [g4]; exact hb) rfl)
        · have := hr.dp
          show X.A.depth + 3 * k + 5 < _
          omega
        · have := hr.un
          show X.A.units + 1 + 16 * k + 200 < _
          omega
    exact codeAny_compStart_list loop (wpAny_pyIter_gen hg4 loop)
  exact hs3 ▸ goal
theorem pe_lcY {e : Expr} {tg : TGen} {x : Str} {p1 p2 pos : Pos} {sc : Scope} {own : List (Str × Nat)} (hgen : PGenY X k e tg) (hr : Room (k + 1) X.A) (hN : X.N.Nodup) (ok : BlkOk X.N X.env.scope sc own) (hx : sc.names.lookup x = some .local)
    (hdb : (x == ("__debug__" : Str)) = false := by decide) (hs : ∀ y, foldedSetIterable e X.env y = pure y := by intro _; rfl) : PE X (.ListComp (.Name x p1) [⟨.Name x p2, e, [], 0⟩] sc pos) (tListG tg) := by
  refine ⟨fun pins s σ H Q I h => ?_⟩
  rw [eval_ListComp]
  refine lcY_core hgen hr hN ok hx hdb hs I h fun D C s' m H' I' q hn f => ⟨m, hn, fun h'' sb => ?_⟩
  obtain ⟨a0, a1, a2, a3, a4, a5⟩ := f
  exact ⟨.ref D, H', I'.turned (t' := s'.toks) (fun b o hb e => (sb.2 b hb).trans e) a0 a1 a3 a4 a5, rfl, q⟩
/-- name = [x for x in f(..)] on one line, the name a local -/
theorem ps_setLcY {i : Nat} {y : Str} {py : Pos} {e : Expr} {tg : TGen} {x : Str} {p1 p2 pos spos : Pos} {sc : Scope} {own : List (Str × Nat)} (hgen : PGenY X k e tg) (hr : Room (k + 1) X.A) (hN : X.N.Nodup) (hy : X.N[i]? = some y) (hyl : X.env.scope.names.lookup y = some .local)
    (hsw : swapsWith (.ListComp (.Name x p1) [⟨.Name x p2, e, [], 0⟩] sc pos) (some (.Name y py)) spos.line X.env = pure true) (ok : BlkOk X.N X.env.scope sc own) (hx : sc.names.lookup x = some .local)
    (hdb : (x == ("__debug__" : Str)) = false := by decide) (hs : ∀ y, foldedSetIterable e X.env y = pure y := by intro _; rfl) : PS X (.Assign [.Name y py] (.ListComp (.Name x p1) [⟨.Name x p2, e, [], 0⟩] sc pos) spos) (tAsg (tListG tg) (gName i)) := by
  refine ⟨fun pins s σ H D I h => ?_⟩
  rw [exec_Assign_Name_used _ _ _ _ hsw]; refine wpAny_bind (wpAny_standAt (wpAny_bind ?_))
  show wpAny _ X.A (do let _ ← comprehension (.ListComp (.Name x p1) [⟨.Name x p2, e, [], 0⟩] sc pos) sc X.env (firstIterPos [⟨.Name x p2, e, [], 0⟩] pos) (newList []) false (eval e X.env) (some (assign (.Name y py) X.env))) _ _ s
  have h : tListG tg σ H (fun x H1 => gName i x σ H1 D.nx) := h
  refine wpAny_bind (thn (lcY_core (Qf := fun _ s' => SP X pins D .next s') hgen hr hN ok hx hdb hs I h fun D' C s' m H' I' q hn f => ?_) fun _ s' hq => wpAny_pure (wpAny_pure hq))
  show wpAny _ _ (assign (.Name y py) X.env (.ref D')) _ _ _
  refine wpAny_assign_Name (store_ok2 (v := V.ref D') I' hN hy (.inl hyl) rfl (fun s2 I2 ⟨a, sb, ha⟩ => ?_) (.inr hyl))
  obtain ⟨a0, a1, a2, a3, a4, a5⟩ := f
  have haC : C ≠ a := by
    rcases ha with z | z
    · rw [z]; exact a1
    · exact fun e => a4 y a z e.symm
  refine ⟨m, hn.sameBut sb haC, fun h3 sb3 => ⟨_, H', I2.turned (t' := s2.toks) (fun b o hb e => (sb3.2 b hb).trans e) a0 a1 a3 a4 a5, q⟩⟩
end
end Cc

/-! Lambdas as values (one parameter with a default, or none): kept in lists, called later by a def that catches what they raise. -/
namespace Cc
open PySem PySem.Spec PyProof.Rows L2
open LamX PySem.W
/-- a lambda's data, its defaults at dv -/
abbrev laFn (q : Str) (params : Arguments) (body : Expr) (scope : Scope) (cl : List (Str × Addr)) (pm dv cdv ct : Value) : FuncData := { kla_fn "<lambda>" q params body scope cl pm cdv ct with defaults := dv }
abbrev laObj (q : Str) (params : Arguments) (body : Expr) (scope : Scope) (cl : List (Str × Addr)) (pm dv : Value) (c' : Addr) (ctv : Value) : Obj := { cls := .type "function", data := .func (laFn q params body scope cl pm dv (.ref c') ctv) }
section
variable {M : Model} {A : Around} {E : Value → Shared → Prop} {s : Shared} {qual : Str} {params : Arguments} {body : Expr} {scope : Scope} {env : Env} {c P : Addr} {ps : Array Value} {pos : Pos} {n : Nat} {mg : Str → Option Value} {clos : List (Str × Addr)} {Q : Value → Shared → Prop} {dv : Value}
theorem la_new (hcl : closureFor scope env = pure clos) (hge : env.globals = mainGlobals) (hg : s.heap.Ns mainGlobals mg) (hcode : env.code = .ref c) (C : CodeHd s.heap c P) (hP : s.heap.get? P = some { cls := .none, data := .fields ps }) (ht : TriplesOk ps.toList)
    (hno : codeAmong pos ps.toList = none) (hgP : mainGlobals ≠ P) (hb : s.heap.BuiltinsAt mg P)
    (h : ∀ c' ctv h' tk, Heap.ExtBut P s.heap h' → s.heap.objs.size ≤ c' → c' < h'.objs.size → h'.CodeRec (.ref c') qual → h'.get? P = some { cls := .none, data := .fields (ps ++ #[rawInt pos.line, rawInt pos.col, .ref c']) } →
      Q (.ref h'.objs.size) { s with heap := h'.push (laObj qual params body scope clos ((mg "__name__").getD .none) dv c' ctv), toks := tk }) :
    wpAny M A (makeTail "<lambda>" qual params (.expr body) scope env dv .none none pos n) Q E s := by
  obtain ⟨bm, ob, b1, b2, _, b3, b4, b5, b6, b7⟩ := hb
  unfold makeTail
  rw [hcl, hge]
  refine wpAny_bind (wpAny_pure ?_); cases clos with
  | nil =>
    simp only [List.isEmpty_nil, if_true]; refine wpAny_bind (wpAny_pure (wpAny_bind (wpAny_functionCodeX hcode (C.code hP ht) (C.tab hP) hno fun c' h' tk hx hsz hlt _ hrec htb _ => ?_)))
    have g' := hg.extBut hx hgP
    exact wpAny_bind (wpAny_builtinsFor g' b1 b2 (hx _ _ b3 b4) b5 b6 b7 (wpAny_bind (wpAny_nsGet g' (wpAny_bind (wpAny_pure (wpAny_newObj_type (h c' .none h' tk hx hsz hlt hrec htb.2) (by size_fits)))))))
  | cons q r =>
    simp only [List.isEmpty_cons, Bool.false_eq_true, if_false]; refine wpAny_bind (wpAny_newTextTuple (wpAny_bind (wpAny_functionCodeX hcode ((C.keeps fun b o e => Heap.get?_push_of_some _ e).code (Heap.get?_push_of_some _ hP) ht) ((C.keeps fun b o e => Heap.get?_push_of_some _ e).tab (Heap.get?_push_of_some _ hP)) hno fun c' h' tk hx hsz hlt _ hrec htb _ => ?_)))
    have g' := (hg.push _).extBut hx hgP
    have hx2 : Heap.ExtBut P s.heap h' := fun b o nb e => hx b o nb (Heap.get?_push_of_some _ e)
    have hsz2 : s.heap.objs.size ≤ c' := Nat.le_trans (by rw [Heap.size_push]; exact Nat.le_succ _) hsz
    exact wpAny_bind (wpAny_builtinsFor g' b1 b2 (hx2 _ _ b3 b4) b5 b6 b7 (wpAny_bind (wpAny_nsGet g' (wpAny_bind (wpAny_pure (wpAny_newObj_type (h c' _ h' tk hx2 hsz2 hlt hrec htb.2) (by size_fits)))))))
theorem la_hit {c' : Addr} (hcl : closureFor scope env = pure clos) (hge : env.globals = mainGlobals) (hg : s.heap.Ns mainGlobals mg) (hcode : env.code = .ref c) (C : CodeHd s.heap c P) (hP : s.heap.get? P = some { cls := .none, data := .fields ps }) (ht : TriplesOk ps.toList)
    (hyes : codeAmong pos ps.toList = some (.ref c')) (hb : s.heap.BuiltinsAt mg P) (h : ∀ (ctv : Value) (h' : Heap) (tk : Tok), (∀ b o, s.heap.get? b = some o → h'.get? b = some o) → s.heap.objs.size ≤ h'.objs.size →
      Q (.ref h'.objs.size) { s with heap := h'.push (laObj qual params body scope clos ((mg "__name__").getD .none) dv c' ctv), toks := tk }) :
    wpAny M A (makeTail "<lambda>" qual params (.expr body) scope env dv .none none pos n) Q E s := by
  obtain ⟨bm, ob, b1, b2, _, b3, b4, b5, b6, b7⟩ := hb
  unfold makeTail
  rw [hcl, hge]
  refine wpAny_bind (wpAny_pure ?_); cases clos with
  | nil =>
    simp only [List.isEmpty_nil, if_true]; exact wpAny_bind (wpAny_pure (wpAny_bind (wpAny_functionCode_hit hcode (C.code hP ht) hyes (wpAny_bind (wpAny_builtinsFor hg b1 b2 b4 b5 b6 b7 (wpAny_bind (wpAny_nsGet hg (wpAny_bind (wpAny_pure (wpAny_newObj_type (h .none s.heap s.toks (fun _ _ e => e) (Nat.le_refl _)) (by size_fits)))))))))))
  | cons q r =>
    simp only [List.isEmpty_cons, Bool.false_eq_true, if_false]; refine wpAny_bind (wpAny_newTextTuple (wpAny_bind (wpAny_functionCode_hit hcode ((C.keeps fun b o e => Heap.get?_push_of_some _ e).code (Heap.get?_push_of_some _ hP) ht) hyes ?_)))
    have up : ∀ oT : Obj, s.heap.objs.size ≤ (s.heap.push oT).objs.size := fun oT => by rw [Heap.size_push]; exact Nat.le_succ _
    exact wpAny_bind (wpAny_builtinsFor (hg.push _) b1 b2 (Heap.get?_push_of_some _ b4) b5 b6 b7 (wpAny_bind (wpAny_nsGet (hg.push _) (wpAny_bind (wpAny_pure (wpAny_newObj_type (h _ _ s.toks (fun b o e => Heap.get?_push_of_some _ e) (up _)) (by size_fits)))))))
end
/-! ### the lambda as a value -/
def LamO (f : Addr) (q : Str) (params : Arguments) (body : Expr) (scope : Scope) (cl : List (Str × Addr)) (c' : Addr) (dv : Value) : HO := .ext fun h => ∃ pm ctv, h.get? f = some (laObj q params body scope cl pm dv c' ctv)
/-- a lambda at f, its defaults ds -/
def LamAt (H : Hp) (f : Addr) (q : Str) (params : Arguments) (body : Expr) (scope : Scope) (cl : List (Str × Addr)) (ds : List V) : Prop :=
  ∃ c' dv, H f = some (LamO f q params body scope cl c' dv) ∧ H c' = some (CodeO c' q) ∧ ((ds = [] ∧ dv = .none) ∨ ∃ T v, ds = [v] ∧ dv = .ref T ∧ H T = some (.tup [v]))
theorem lamO_ne {f : Addr} {q : Str} {params : Arguments} {body : Expr} {scope : Scope} {cl : List (Str × Addr)} {c' : Addr} {dv : Value} (ps : Array Value) : LamO f q params body scope cl c' dv ≠ .tbl ps := fun z => by
  unfold LamO at z
  cases z
theorem LamAt.ext {H H1 : Hp} {f : Addr} {q : Str} {params : Arguments} {body : Expr} {scope : Scope} {cl : List (Str × Addr)} {ds : List V} (h : LamAt H f q params body scope cl ds) (e : ExtN H H1) : LamAt H1 f q params body scope cl ds := by
  obtain ⟨c', dv, h1, h2, h3⟩ := h
  refine ⟨c', dv, e _ _ h1 lamO_ne, e _ _ h2 codeO_ne, h3.imp id fun ⟨T, v, z1, z2, z3⟩ => ⟨T, v, z1, z2, e _ _ z3 fun _ z => by cases z⟩⟩
def tLamV (T : List (Addr × Str)) (q : Str) (params : Arguments) (body : Expr) (scope : Scope) (cl : List (Str × Addr)) (ds : List V) : TE := fun σ H Q => Tabs T H ∧ ∀ f H1, H f = none → ExtN H H1 → Tabs T H1 → LamAt H1 f q params body scope cl ds → Q (.ref f) H1
section
variable {X : Cx} {pins : List (Addr × Obj)} {σ : L2.St} {H : Hp} {s : Shared} {T : List (Addr × Str)} {c P : Addr} {params : Arguments} {body : Expr} {scope : Scope} {pos : Pos}
/-- the made function is tracked -/
theorem lam_in {s' : Shared} {h' : Heap} {tk : Nat} {cl : List (Str × Addr)} {pm dv ctv : Value} {c' : Addr} {q : Str} (I : Inv X pins σ H { s' with heap := h', toks := tk }) :
    Inv X pins σ (upd H h'.objs.size (LamO h'.objs.size q params body scope cl c' dv)) { s' with heap := h'.push (laObj q params body scope cl pm dv c' ctv), toks := tk } :=
  I.laid (t' := tk) (fun b o e => Heap.get?_push_of_some _ e) (Nat.le_refl _) ⟨⟨_, _, Heap.get?_push_size _ rfl⟩, ⟨_, Heap.get?_push_size _ rfl⟩, fun h1 h2 ⟨pm, ctv, e⟩ st => ⟨pm, ctv, st _ e⟩⟩
theorem la_tail {dv : Value} {ds : List V} {E : Value → Shared → Prop} {Q : Value → Shared → Prop} (I : Inv X pins σ H s) (TB : TabB X.base X.mg c P) (hcode : X.env.code = .ref c) (hm : (P, X.env.qual ++ "<lambda>") ∈ T) (hu : ∀ p ∈ T, p.1 = P → p.2 = X.env.qual ++ "<lambda>") (hT : Tabs T H)
    (hfree : ∀ y ∈ scope.names, y.2 = .free → ∃ c, X.env.cells.lookup y.1 = some c) (hd : (ds = [] ∧ dv = .none) ∨ ∃ T v, ds = [v] ∧ dv = .ref T ∧ H T = some (.tup [v]))
    (h : ∀ (f : Addr) (H1 : Hp) (s' : Shared), H f = none → Inv X pins σ H1 s' → ExtN H H1 → Tabs T H1 → LamAt H1 f (X.env.qual ++ "<lambda>") params body scope (cloFrom X.env.cells scope.names []) ds → Q (.ref f) s') :
    wpAny (model X.prog X.w) X.A (makeTail "<lambda>" (X.env.qual ++ "<lambda>") params (.expr body) scope X.env dv .none none pos pos.line) Q E s := by
  obtain ⟨ps, hP, ht, ha⟩ := hT _ hm; have bP : s.heap.BuiltinsAt X.mg P := TB.bm.keeps I.bk
  have atP : s.heap.get? P = some { cls := .none, data := .fields ps } := I.hok P _ hP
  -- a fresh place told: all that is wanted
  have last : ∀ (f c' : Addr) (H1 : Hp) (s' : Shared), H f = none → H1 f = none → ExtN H H1 → Tabs T H1 → H1 c' = some (CodeO c' (X.env.qual ++ "<lambda>")) → Inv X pins σ (upd H1 f (LamO f (X.env.qual ++ "<lambda>") params body scope (cloFrom X.env.cells scope.names []) c' dv)) s' → Q (.ref f) s' := by
    intro f c' H1 s' nf nf1 eN T1 hc J
    have e1 : ∀ b o, H1 b = some o → upd H1 f (LamO f (X.env.qual ++ "<lambda>") params body scope (cloFrom X.env.cells scope.names []) c' dv) b = some o := fun b o e => by
      rw [upd_ne (ne_of_none e nf1)]
      exact e
    exact h f _ s' nf J (eN.trans (ExtN.of e1)) (T1.ext e1) ⟨c', dv, upd_same, e1 _ _ hc, hd.imp id fun ⟨t, v, z1, z2, z3⟩ => ⟨t, v, z1, z2, e1 _ _ (eN _ _ z3 fun _ z => by cases z)⟩⟩
  cases hck : codeAmong pos ps.toList with
  | none =>
    refine la_new (mg := X.mg) (c := c) (P := P) (ps := ps) (closure_ok hfree) I.ok.glob (I.mod.glob.keeps I.bk) hcode (TB.code.keeps I.bk) atP ht hck TB.gP bP fun c' ctv h' tk hx hge hlt hrec htb => ?_
    obtain ⟨c2, oc, vs, t, e2, hoc, hdat, hv⟩ := hrec
    cases e2
    have nC : H c' = none := I.hok.fresh hge; have J := inv_table (t' := tk) (more := #[rawInt pos.line, rawInt pos.col, .ref c']) (h' := h') I hP hx htb hge ⟨oc, vs, t, hoc, hdat, hv⟩
    have eN : ExtN H (upd (upd H P (.tbl (ps ++ #[rawInt pos.line, rawInt pos.col, .ref c']))) c' (CodeO c' (X.env.qual ++ "<lambda>"))) := fun b o e n => by
      have nP : b ≠ P := fun z => n ps (by rw [z, hP] at e; exact (Option.some.inj e).symm)
      rw [upd_ne (ne_of_none e nC), upd_ne nP]
      exact e
    have szf : s.heap.objs.size ≤ h'.objs.size := Nat.le_trans hge (Nat.le_of_lt hlt)
    have nf : H h'.objs.size = none := I.hok.fresh szf
    refine last h'.objs.size c' _ _ nf (J.hok.fresh (Nat.le_refl _)) eN (fun p hp => ?_) upd_same (lam_in J)
    by_cases hb : p.1 = P
    · rw [hu p hp hb, hb]
      have el : (ps ++ #[rawInt pos.line, rawInt pos.col, .ref c']).toList = ps.toList ++ [rawInt pos.line, rawInt pos.col, .ref c'] := by simp
      refine ⟨_, by rw [upd_ne (ne_of_none hP nC), upd_same], by rw [el]; exact PySem.TriplesOk_snoc _ _ _ _ ht, fun p' cv hcv => ?_⟩
      rw [el] at hcv; rcases among_app _ ht hcv with z | z
      · obtain ⟨c0, z1, z2⟩ := ha p' cv z
        exact ⟨c0, z1, eN _ _ z2 codeO_ne⟩
      · exact ⟨c', z, upd_same⟩
    · obtain ⟨ps2, a1, a2, a3⟩ := hT p hp
      refine ⟨ps2, by rw [upd_ne (ne_of_none a1 nC), upd_ne hb]; exact a1, a2, fun p' cv hcv => ?_⟩
      obtain ⟨c0, z1, z2⟩ := a3 p' cv hcv
      exact ⟨c0, z1, eN _ _ z2 codeO_ne⟩
  | some cv =>
    obtain ⟨c', e, hco⟩ := ha pos cv hck; subst e
    refine la_hit (mg := X.mg) (c := c) (P := P) (ps := ps) (closure_ok hfree) I.ok.glob (I.mod.glob.keeps I.bk) hcode (TB.code.keeps I.bk) atP ht hck bP fun ctv h' tk hx hsz => ?_
    have J : Inv X pins σ H { s with heap := h', toks := tk } := I.kept hx
    exact last h'.objs.size c' H _ (I.hok.fresh hsz) (J.hok.fresh (Nat.le_refl _)) (ExtN.refl H) hT hco (lam_in J)
theorem pe_lam0 (TB : TabB X.base X.mg c P) (hcode : X.env.code = .ref c) (hm : (P, X.env.qual ++ "<lambda>") ∈ T) (hu : ∀ p ∈ T, p.1 = P → p.2 = X.env.qual ++ "<lambda>") (hdef : defaultsOf params X.env = ([], [])) (hkw : params.kwonlyargs = [] := by rfl)
    (hfree : ∀ (ok : X.Ok), ∀ y ∈ scope.names, y.2 = .free → ∃ c, X.env.cells.lookup y.1 = some c) : PE X (.Lambda params body scope pos) (tLamV T (X.env.qual ++ "<lambda>") params body scope (cloFrom X.env.cells scope.names []) []) := by
  refine ⟨fun pins s σ H Q I h => kla_eval hdef ?_⟩
  rw [makeFunction_eq]
  simp only [List.zip_nil_right, List.filterMap_nil, List.isEmpty_nil, if_true, pure_bind]; exact la_tail I TB hcode hm hu h.1 (hfree I.ok) (.inl ⟨rfl, rfl⟩) fun f H1 s' nf J e1 e2 e3 => ⟨.ref f, H1, J, rfl, h.2 f H1 nf e1 e2 e3⟩
theorem pe_lam1 {e : Expr} {i : Int} (TB : TabB X.base X.mg c P) (hcode : X.env.code = .ref c) (hm : (P, X.env.qual ++ "<lambda>") ∈ T) (hu : ∀ p ∈ T, p.1 = P → p.2 = X.env.qual ++ "<lambda>") (hdef : defaultsOf params X.env = ([eval e X.env], [])) (he : PE X e (tC (.int i)))
    (hfree : ∀ (ok : X.Ok), ∀ y ∈ scope.names, y.2 = .free → ∃ c, X.env.cells.lookup y.1 = some c) : PE X (.Lambda params body scope pos) (tLamV T (X.env.qual ++ "<lambda>") params body scope (cloFrom X.env.cells scope.names []) [.int i]) := by
  refine ⟨fun pins s σ H Q I h => ?_⟩
  rw [arm_eval_Lambda, hdef]
  show wpAny _ _ (do let dv ← evalAll [eval e X.env]; let kdv ← holding dv (evalAllOpt []); makeFunction "<lambda>" (X.env.qual ++ "<lambda>") params (.expr body) scope X.env dv kdv [] pos pos.line) _ _ s
  refine wpAny_bind (wpAny_bind (thn (he.run pins s σ H (fun v H1 => v = .int i ∧ H1 = H) I ⟨rfl, rfl⟩) fun u s1 ⟨v, H1, I1, r1, e1, e2⟩ => ?_))
  subst e1 e2
  refine wpAny_bind (wpAny_holding (wpAny_pure (wpAny_pure (wpAny_bind (wpAny_holding (wpAny_pure ?_))))))
  rw [makeFunction_eq]
  simp only [List.zip_nil_right, List.filterMap_nil, List.isEmpty_nil, if_true, pure_bind, List.isEmpty_cons, Bool.false_eq_true, if_false]
  refine wpAny_bind (wpAny_newTextTuple ?_); have nT : H1 s1.heap.objs.size = none := I1.hok.fresh (Nat.le_refl _)
  have J : Inv X pins σ (upd H1 s1.heap.objs.size (.tup [.int i])) { s1 with heap := s1.heap.push { cls := .type "tuple", data := .seq [u].toArray } } :=
    I1.laid (t' := s1.toks) (fun b o e => Heap.get?_push_of_some _ e) (Nat.le_refl _) ⟨by show 1 ≤ sizeLine; decide, [u], .cons r1 .nil, ⟨_, Heap.get?_push_size _ rfl, rfl, _, rfl⟩⟩
  have e0 : ∀ b o, H1 b = some o → upd H1 s1.heap.objs.size (.tup [.int i]) b = some o := same_upd nT
  refine la_tail J TB hcode hm hu (h.1.ext e0) (hfree I.ok) (.inr ⟨s1.heap.objs.size, .int i, rfl, rfl, upd_same⟩) fun f H2 s' nf J2 g1 g2 g3 => ⟨.ref f, H2, J2, rfl, h.2 f H2 ?_ ((ExtN.of e0).trans g1) g2 g3⟩
  by_cases q : f = s1.heap.objs.size
  · rw [q]
    exact nT
  · rw [upd_ne q] at nf
    exact nf
end
end Cc

/-! A lambda called: its body runs among what it captured. -/
namespace Cc
open PySem PySem.Spec PyProof.Rows L2
open LamX
/-- its names: captured ones, globals, own parameters that are no names of the def around it -/
structure LamN (N : List Str) (sc scope : Scope) : Prop where
  kind : scope.kind = .function
  (co : scope.isCoroutine = false)
  (gen : scope.isGenerator = false)
  own : ∀ y ∈ scope.names, y.2 ≠ .cell ∧ (y.2 = .local → y.1 ∉ N)
  (free : ∀ y ∈ scope.names, y.2 = .free → sc.names.lookup y.1 = some .cell ∨ sc.names.lookup y.1 = some .free)
def lamNB (N : List Str) (sc scope : Scope) : Bool :=
  decide (scope.kind = .function) && !scope.isCoroutine && !scope.isGenerator && scope.names.all fun y => !decide (y.2 = .cell) && (!decide (y.2 = .local) || !N.contains y.1) && (!decide (y.2 = .free) || decide (sc.names.lookup y.1 = some .cell) || decide (sc.names.lookup y.1 = some .free))
theorem lamN_by {N : List Str} {sc scope : Scope} (h : lamNB N sc scope = true) : LamN N sc scope := by
  unfold lamNB at h
  simp only [Bool.and_eq_true, Bool.or_eq_true, Bool.not_eq_true', decide_eq_true_eq, decide_eq_false_iff_not, List.all_eq_true] at h; obtain ⟨⟨⟨h1, h2⟩, h3⟩, h4⟩ := h
  refine ⟨h1, h2, h3, fun y hy => ⟨(h4 y hy).1.1, fun e => ?_⟩, fun y hy e => ?_⟩
  · rcases (h4 y hy).1.2 with z | z
    · exact absurd e z
    · intro m
      rw [List.contains_iff_mem.mpr m] at z
      cases z
  · rcases (h4 y hy).2 with (z | z) | z
    · exact absurd e z
    · exact .inl z
    · exact .inr z
theorem LamN.has {X : Cx} {scope : Scope} (L : LamN X.N X.env.scope scope) (ok : X.Ok) : ∀ y ∈ scope.names, y.2 = .free → ∃ c, X.env.cells.lookup y.1 = some c := fun y hy e => ok.has _ (L.free y hy e)
section
variable {X : Cx} {pins : List (Addr × Obj)} {σ : L2.St} {H HZ : Hp}
variable {s s1 : Shared}
theorem la_start {A : Around} {outer : List Env} {E : XK} {scope : Scope} {f c' : Addr} {h₁ : Heap} {tk : Nat} {m : Str → Option Value} (I : Inv X pins σ H s) (L : LamN X.N X.env.scope scope) (e0 : Env0 X.prog X.w X.K X.mg X.base A outer s1 HZ) (hd : A.handled = none)
    (un : Un (frs X.stack) [] H HZ s.heap s1.heap) (hns : h₁.Ns s1.heap.objs.size m) (kp : ∀ b o, s1.heap.get? b = some o → h₁.get? b = some o) :
    Inv (lamCx X A outer s1 HZ E scope f c') ([] : List (Addr × Obj)) σ HZ { s1 with heap := h₁, toks := tk } := by
  have caught : ∀ {y c}, (cloFrom X.env.cells scope.names []).lookup y = some c → X.env.cells.lookup y = some c := fun {y c} e => by
    rcases cloFrom_mem (PySem.mem_of_lookup e) with hmm | ⟨h1, h2⟩
    · cases hmm
    · obtain ⟨c1, hc⟩ := L.has I.ok _ h1 rfl
      rw [h2, hc]
      rfl
  have seen : ∀ {y}, scope.names.lookup y = some .free → ∃ c, (cloFrom X.env.cells scope.names []).lookup y = some c := fun {y} hl => mem_lookup (cloFrom_has (cells := X.env.cells) (acc := []) (show (y, NameKind.free) ∈ scope.names from PySem.mem_of_lookup hl))
  have stays : ∀ {c : Addr} {v : Option Value}, H c = none → s.heap.IsCell c v → h₁.IsCell c v := fun {c v} n ⟨o, ho, hdat⟩ => by
    obtain ⟨sl, q⟩ := un.any ho n (fun z => nomatch z)
    exact ⟨_, kp _ _ q, hdat⟩
  have noX : ∀ b : Addr, b ∉ (lamCx X A outer s1 HZ E scope f c').ex := fun b z => nomatch (show b ∈ ([] : List Addr) from z)
  refine ⟨⟨e0.mod, L.kind, rfl, rfl, Nat.le_refl _, fun y z c e1 e2 => I.ok.inj y z c (caught e1) (caught e2), fun y hy => ?_, fun y c z _ => (nomatch (show false = true from z)), fun _ => hd, Around.frames_deeper e0.frames, .inr ⟨rfl, rfl⟩, fun b z => absurd z (noX b), e0.bs, e0.bsz, fun b _ _ => noX b,
      fun b z => absurd z (noX b), e0.funs, e0.frf⟩,
    rfl, e0.bare, Un.kept kp, ⟨_, hns, fun i y v e1 e2 e3 => ?_⟩, fun y c e => ?_, e0.hok.fresh (Nat.le_refl _), fun y c e => ?_, fun q hq => (nomatch (show q ∈ ([] : List (Addr × Obj)) from hq)), e0.hok.kept kp, I.len⟩
  · have hy : scope.names.lookup y = some .cell ∨ scope.names.lookup y = some .free := hy; rcases hy with hy | hy
    · exact absurd rfl (L.own _ (PySem.mem_of_lookup hy)).1
    · exact seen hy
  · have e3 : Vis scope y := e3
    rcases e3 with k | k | k
    · exact absurd (List.mem_of_getElem? e1) ((L.own _ (PySem.mem_of_lookup k)).2 rfl)
    · exact (L.own _ (PySem.mem_of_lookup k)).1 rfl |>.elim
    · obtain ⟨m0, hn, hl⟩ := I.loc
      have way := L.free _ (PySem.mem_of_lookup k) rfl
      obtain ⟨u, r, q⟩ := hl i y v e1 e2 (way.elim (fun k => .inr (.inl k)) fun k => .inr (.inr k))
      obtain ⟨c2, h2⟩ := seen k
      refine ⟨u, r, .inr ⟨.inr k, c2, h2, ?_⟩⟩; rcases q with ⟨k', _⟩ | ⟨_, c3, e', z⟩
      · have k' : X.env.scope.names.lookup y = some .local := k'; rcases way with k2 | k2
        · rw [k'] at k2
          cases k2
        · rw [k'] at k2
          cases k2
      · rw [caught h2] at e'
        cases e'
        exact stays (I.freeC y _ (caught h2)) z
  · obtain ⟨u, z⟩ := I.cell y c (caught e)
    exact ⟨u, stays (I.freeC y c (caught e)) z⟩
  · obtain ⟨v, o, ho, _⟩ := I.cell y c (caught e)
    exact un.free c o ho (I.freeC y c (caught e)) (fun z => nomatch z)
/-- how its arguments bind -/
def LamBind (params : Arguments) (body : Expr) (scope : Scope) (ds : List V) : Prop :=
  (ds = [] ∧ ∀ (q : Str) (cl : List (Str × Addr)) (pm cv ctv : Value), bindArgs (laFn q params body scope cl pm .none cv ctv) ⟨[], []⟩ = pure []) ∨
  (∃ x, scope.names.lookup x = some .local ∧ ∀ (q : Str) (cl : List (Str × Addr)) (pm cv ctv : Value) (T : Addr) (u : Value), ∃ k, bindArgs (laFn q params body scope cl pm (.ref T) cv ctv) ⟨[], []⟩ = seqItems? (.ref T) >>= k ∧ k (some #[u]) = pure [(x, u)])
/-- x(), x bound to the lambda, in a def called from where it was made -/
theorem la_act {CXg : CXT} {Eg : XK} {Ng : List Str} {qg : Str} {sg : Scope} {g f : Addr} {cdg : Value} {params : Arguments} {body : Expr} {scope : Scope} {ds : List V} {k i : Nat} {a : Str} {pn : List (Addr × Obj)} {xe : Value → Shared → Prop} {W : WX} {E : XK} {tb : TE} {p1 p2 : Pos}
    (I : Inv X pins σ H s) (L : LamN X.N X.env.scope scope) (hbind : LamBind params body scope ds) (hds : ds = [] → ∀ (q : Str) (cl : List (Str × Addr)) (pm cv ctv : Value), bindArgs (laFn q params body scope cl pm .none cv ctv) ⟨[], []⟩ = pure [])
    (tk : Takes ((cxOf CXg X.prog X.w X.K X.mg X.base Ng qg sg g cdg X.A X.stack s H Eg).tr pn xe) W) (hW : ∀ cls d σ' H', E cls d H' → W cls d σ' H') (hr : Room (k + 1) (X.A.deeper (envOfC qg sg s.heap.objs.size g cdg))) (hbody : ∀ (A : Around) (outer : List Env) (s : Shared) (H : Hp) (c' : Addr), Room k (A.deeper (lamEnv X scope s.heap.objs.size f c')) → PE (lamCx X A outer s H E scope f c') body tb)
    (hN : Ng[i]? = some a) (hv : Vis sg a) (hd : (a == ("__debug__" : Str)) = false := by decide) (hcd : (a == ("__classdict__" : Str)) = false := by decide) : PE ((cxOf CXg X.prog X.w X.K X.mg X.base Ng qg sg g cdg X.A X.stack s H Eg).tr pn xe) (.Call (.Name a p1) [] [] p2)
      (fun σZ HZ Q => σZ[i]? = some (some (.ref f)) ∧ LamAt HZ f (X.env.qual ++ "<lambda>") params body scope (cloFrom X.env.cells scope.names []) ds ∧ tb σ HZ Q) := by
  refine ⟨fun pinsZ sZ σZ HZ Q IZ ⟨hs, hlam, ht⟩ => ?_⟩
  refine wpAny_Call_Name_kw (thn ((pe_var (pos := p1) (i := i) hN hv hd hcd).run pinsZ sZ σZ HZ (fun v H1 => v = .ref f ∧ H1 = HZ) IZ ⟨.ref f, hs, rfl, rfl⟩) fun u z1 ⟨v, H1, I1, r1, ev, eH⟩ => ?_)
  subst ev
  subst eH
  cases (show u = Value.ref f from r1)
  obtain ⟨c', dv, hO, hC, hD⟩ := hlam
  obtain ⟨⟨pm, ctv, of1⟩, _, _⟩ := I1.hok f _ hO
  obtain ⟨⟨oc, vs, t, hoc, hdc, hvc⟩, _, _⟩ := I1.hok c' _ hC
  refine PySem.W.callWith_F0 ⟨_, _, _, _, of1⟩ ?_; have un : Un (frs X.stack) [] H H1 s.heap z1.heap := I1.base
  have bindsTo : ∀ {M : Model} {A' : Around} {Qb : List (Str × Value) → Shared → Prop} {Eb : Value → Shared → Prop}, (∀ binds : List (Str × Value), (∀ y ∈ binds, scope.names.lookup y.1 = some .local) → Qb binds z1) → wpAny M A' (bindArgs (laFn (X.env.qual ++ "<lambda>") params body scope (cloFrom X.env.cells scope.names []) pm dv (.ref c') ctv) ⟨[], []⟩) Qb Eb z1 := fun {M A' Qb Eb} hq => by
    rcases hD with ⟨e1, e2⟩ | ⟨T, v, e1, e2, e3⟩
    · subst e2
      rw [hds e1]
      exact wpAny_pure (hq [] fun y hy => nomatch hy)
    · subst e2
      rcases hbind with ⟨z, _⟩ | ⟨x, hx, hb⟩
      · rw [e1] at z
        cases z
      · obtain ⟨_, its, rits, o, ho, _, n, hdat⟩ := I1.hok T _ e3
        obtain ⟨u, eu, ru⟩ := rits.one
        obtain ⟨kk, k1, k2⟩ := hb (X.env.qual ++ "<lambda>") (cloFrom X.env.cells scope.names []) pm (.ref c') ctv T u
        rw [k1]
        refine wpAny_bind (wpAny_seqItems ho hdat ?_)
        rw [eu]
        show wpAny _ _ (kk (some #[u])) _ _ _
        rw [k2]
        exact wpAny_pure (hq _ fun y hy => by rw [List.mem_singleton.mp hy]; exact hx)
  have rc : codeAny (model X.prog X.w) (X.A.deeper (envOfC qg sg s.heap.objs.size g cdg)) (.call (.ref f) ⟨[], []⟩) (CR (L2.CX X.prog X.w) (envOfC qg sg s.heap.objs.size g cdg :: X.stack) X.prog X.w H1 z1 Q E) z1 := by
    refine PySem.W.kla_callFunE hr.depth of1 rfl L.co L.gen rfl ⟨c', oc, vs, t, rfl, hoc, hdc, hvc⟩ (bindsTo fun binds hbs => wpAny_newFunctionEnv (fun y hy => (L.own y hy).1) hbs (fun h₁ hns hsb => ⟨I1.nolimit.fresh _ hsb, ?_⟩) L.kind)
    show codeAny _ _ (.expr body (lamEnv X scope z1.heap.objs.size f c')) _ _
    have kp : ∀ b o, z1.heap.get? b = some o → h₁.get? b = some o := fun b o e => hsb.extBut b o (Nat.ne_of_lt (Heap.lt_size e)) (Heap.get?_push_of_some _ e)
    have J : Inv (lamCx X (X.A.deeper (envOfC qg sg s.heap.objs.size g cdg)) (envOfC qg sg s.heap.objs.size g cdg :: X.stack) z1 H1 E scope f c') [] σ H1 { z1 with heap := h₁, toks := z1.toks + binds.length } := la_start I L I1.env0 hr.hd un hns kp
    refine PySem.W.kla_codeExpr (wpAny_mono ((hbody _ _ z1 H1 c' (hr.deeper _)).run [] _ _ H1 Q J ht) (fun v s' q => ?_) fun e s' q => q)
    obtain ⟨x', H', J', rv, q⟩ := q
    exact ⟨x', H', J'.os, J'.bare, J'.base, J'.hok, rv, q⟩
  have ps : Passes (L2.CX X.prog X.w) ((cxOf CXg X.prog X.w X.K X.mg X.base Ng qg sg g cdg X.A X.stack s H Eg).tr pn xe) E := passes_call tk hW
  refine wpAny_call (codeAny_mono rc fun r s' q => ?_)
  cases r with
  | error e => exact ps pinsZ σZ H1 z1 e s' I1 q
  | ok fl =>
    cases fl with
    | ret u => exact I1.after q
    | next => exact q.elim
    | brk => exact q.elim
    | cont => exact q.elim
end
end Cc

/-! An own error class called with a text that is made on the way. -/
namespace Cc
open PySem PySem.Spec PyProof.Rows L2
section
variable {X : Cx} {C : Addr} {bmB : List Value} {B newId initId : String} {x : Str} {e : Expr} {ta : TA} {p pos : Pos}
theorem pmk_any (F : ExcBaseFacts B newId initId bmB) (q : PySem.W.excIn X.K C bmB newId = true) (gC : X.mg x = some (.ref C)) (kC : PySem.W.keepIn X.K (.ref C) = true) (r : Raises X (.ref C)) (hg : Gl X x) (ha : PA X [e] ta)
    (hs : starEach [e] X.env = (false, eval e X.env) :: starEach [] X.env := by rfl) (hp : (backTo pos (starEach [] X.env)).any (·.1) = false := by rfl) (hdb : (x == ("__debug__" : Str)) = false := by decide) :
    PMk X (.Call (.Name x p) [e] [] pos) (fun σ H Q => ta σ H fun vs H1 => (∃ v, vs = [v]) ∧ Q (.ref C) none H1) := by
  intro pins s σ H Q I h
  refine wpAny_Call_Name_kw (ld_glob I hg gC ?_ hdb); refine PySem.W.callWith_K (h₀ := X.base) I.ok.mod.kin kC (thn (ha.run pos pins s σ H _ I h) fun us z1 ⟨vs, H1, I1, r1, ⟨v, ev⟩, q1⟩ => ⟨I1.kIn, ?_⟩) hs hp
  subst ev
  obtain ⟨u, rfl, ru⟩ := r1.one
  show wpAny _ _ (call (.ref C) [u]) _ _ _; obtain ⟨bm, N, nm, qn, bs, hd, sn, sub, ab, col, dd, k0, k1, k2, k3, k5, mN, hC, hN, hni, T⟩ := exc_obj I1.kIn q
  exact wpAny_call_exc_subT F T hC hN hni (fun h' a hm => mk_of I1 hm r q1 (I1.hok.gone hm.new)) (by show 1 ≤ sizeLine; decide)
end
/-- what is asked of an own error class that the program raises -/
structure Err (K : PySem.W.Frag) (mg : Str → Option Value) (x : Str) (C : Addr) : Prop where
  at_ : mg x = some (.ref C)
  (kp : PySem.W.keepIn K (.ref C) = true)
  ex : ∃ bmB B newId initId, ExcBaseFacts B newId initId bmB ∧ PySem.W.excIn K C bmB newId = true
  sub : PySem.W.subIn K (.ref C) (.type "BaseException") = some true
  ty : PySem.W.typeIn K (.ref C) = some (.type "type")
theorem log_small {i : Int} (h0 : -(2 ^ 64) < i) (h1 : i < 2 ^ 64) : i.natAbs.log2 < 1920 := by
  by_cases q : i.natAbs = 0
  · rw [q]
    decide
  · have h : i.natAbs < 2 ^ 64 := by omega
    exact Nat.lt_trans ((Nat.log2_lt q).mpr h) (by decide)
/-- a def of the module that may raise -/
structure DnX (P : Program) (w : World) (K : PySem.W.Frag) (mg : Str → Option Value) (base : Heap) (k : Nat) (x : Str) (f : Addr) (sp : Sp) : Prop where
  at_ : mg x = some (.ref f)
  kp : PySem.W.keepIn K (Value.ref f) = true
  ok : FnR P w K mg base (L2.CX P w) k f sp
/-- a block that is not reached -/
theorem pss_never {X : Cx} {rest : List Stmt} : PSs X rest (fun _ _ _ => False) := ⟨fun _ _ _ _ _ _ h => h.elim⟩
end Cc

/-! A comprehension whose element calls a def with a lambda: what stands around the comprehension is known within. -/
namespace Cc
open PySem PySem.Spec PyProof.Rows L2
open LamX
section
variable {X : Cx}
/-- a comprehension of one clause; its element is judged where the slots around are known -/
theorem pe_lcI {el ta ia : Expr} {fs : List Expr} {sc : Scope} {own : List (Str × Nat)} {ps : Pos} {wi : TI} {g : TG} {tt : TT} {te : L2.St → TE} (hc : X.calm = true) (hN : X.N.Nodup) (hi : PI X ta ia wi) (ok : BlkOk X.N X.env.scope sc own)
    (hg : ∀ (s : Shared) (H : Hp) (C : Addr) (cl : List (Str × Addr)) (fp : List Addr), PG (X.blk s H sc (compEnvC sc cl C X.env) fp) ta g)
    (ht : ∀ (s : Shared) (H : Hp) (C : Addr) (cl : List (Str × Addr)) (fp : List Addr), PTs (X.blk s H sc (compEnvC sc cl C X.env) fp) fs tt)
    (he : ∀ (pins : List (Addr × Obj)) (σ : L2.St) (s : Shared) (H : Hp) (C : Addr) (cl : List (Str × Addr)) (fp : List Addr), Inv X pins σ H s → (∀ b ∈ fp, FpOk X pins H b) → PE (X.blk s H sc (compEnvC sc cl C X.env) fp) el (te σ))
    (hs : ∀ x, foldedSetIterable ia X.env x = pure x := by intro _; rfl) :
    PE X (.ListComp el [⟨ta, ia, fs, 0⟩] sc ps) (fun σ H Q => tLc wi g tt (te σ) (own.map (·.2)) σ H Q) := by
  refine ⟨fun pz z0 sg G0 Qq K0 h => ?_⟩
  rw [eval_ListComp]
  have frees : ∀ y ∈ sc.names, y.2 = .free → ∃ c, X.env.cells.lookup y.1 = some c := fun y hy e => K0.ok.has _ (ok.free y hy e)
  refine wpAny_comprehension_free (use := none) rfl hs (closure_ok frees) ok.kind (fun y hy e => (ok.uniq y hy).trans (congrArg some e)) (thn (hi.run pz z0 sg G0 _ K0 h) fun _ z1 h1 => thn h1 fun iv z2 h2 => ?_)
  obtain ⟨it, fp, tn, Jt, G2, rfl, K2, T, t2, f2, q⟩ := h2
  refine wpAny_newObj_type (newEnv_comp ?_) (by show 0 ≤ sizeLine; decide); obtain ⟨D, hD⟩ : ∃ D, D = z2.heap.objs.size := ⟨_, rfl⟩
  rw [← hD]
  have freeD : G2 D = none := K2.hok.fresh (Nat.le_of_eq hD.symm)
  obtain ⟨W, ⟨m0, w0⟩, turn⟩ := q D freeD
  obtain ⟨z3, hz3⟩ : ∃ z3 : Shared, z3 = { z2 with heap := z2.heap.push { cls := .type "list", data := .seq ([] : List Value).toArray } } := ⟨_, rfl⟩
  have p3 : z3.heap = z2.heap.push { cls := .type "list", data := .seq ([] : List Value).toArray } := by rw [hz3]
  have keep3 : ∀ b o, z2.heap.get? b = some o → z3.heap.get? b = some o := fun b o e => by
    rw [p3]
    exact Heap.get?_push_of_some (h := z2.heap) _ e
  have K3 : Inv X pz sg (upd G2 D (.lst [])) z3 := by
    rw [hz3]
    refine K2.laid (t' := z2.toks) (fun b o e => Heap.get?_push_of_some _ e) (Nat.le_of_eq hD.symm) ⟨Nat.zero_le _, [], 0, .nil, ?_⟩
    rw [hD]
    exact Heap.get?_push_size z2.heap rfl
  have old : ∀ b ∈ fp, b < z2.heap.objs.size := fun b hb => (T.obj _ _ t2 b hb).elim fun _ e => Heap.lt_size e.1
  have f3 : ∀ b ∈ fp, FpOk X pz (upd G2 D (.lst [])) b ∧ b < z3.heap.objs.size := fun b hb =>
    ⟨⟨by rw [upd_ne (by rw [hD]; exact Nat.ne_of_lt (old b hb))]; exact (f2 b hb).1, (f2 b hb).2⟩, by rw [p3, Heap.size_push]; exact Nat.lt_succ_of_lt (old b hb)⟩
  have K4 := block_start K3 ok hN f3
  have Bg := hg z3 (upd G2 D (.lst [])) z3.heap.objs.size (cellsFrom (z3.heap.objs.size + 1) sc.names (cloFrom X.env.cells sc.names [])) fp
  have Bt := ht z3 (upd G2 D (.lst [])) z3.heap.objs.size (cellsFrom (z3.heap.objs.size + 1) sc.names (cloFrom X.env.cells sc.names [])) fp
  have Be := he pz sg z3 (upd G2 D (.lst [])) z3.heap.objs.size (cellsFrom (z3.heap.objs.size + 1) sc.names (cloFrom X.env.cells sc.names [])) fp K3 fun b hb => (f3 b hb).1
  have goal : codeAny (model X.prog X.w) X.A (.compStart (.ListComp el [⟨ta, ia, fs, 0⟩] sc ps) 0 (.ref it) (.ref D) (compEnvC sc (cellsFrom (z3.heap.objs.size + 1) sc.names (cloFrom X.env.cells sc.names [])) z3.heap.objs.size X.env))
      (compPost (model X.prog X.w) X.A X.xe none (EP X pz sg Qq) (.ref D) z3.heap.objs.size) { z3 with heap := pushCells (z3.heap.push { cls := .type "dict", data := .dict #[] }) sc.names } := by
    obtain ⟨ce, hce⟩ : ∃ ce, ce = compEnvC sc (cellsFrom (z3.heap.objs.size + 1) sc.names (cloFrom X.env.cells sc.names [])) z3.heap.objs.size X.env := ⟨_, rfl⟩
    rw [← hce] at K4 Bg Bt Be ⊢
    have lc : ce.locals = z3.heap.objs.size := by rw [hce]; rfl
    obtain ⟨G3, hG3⟩ : ∃ G3, G3 = upd G2 D (.lst []) := ⟨_, rfl⟩
    rw [← hG3] at K3 K4 Bg Bt Be w0 f3
    have nf3 : ∀ b ∈ fp, G3 b = none := fun b hb => (f3 b hb).1.1
    obtain ⟨z4, hz4⟩ : ∃ z4 : Shared, z4 = { z3 with heap := pushCells (z3.heap.push { cls := .type "dict", data := .dict #[] }) sc.names } := ⟨_, rfl⟩
    rw [← hz4] at K4 ⊢
    have t4 : tn 0 z4.heap := T.keep _ _ _ t2 fun b _ o e => by
      rw [hz4]
      exact pushCells_keeps _ _ _ _ (Heap.get?_push_of_some _ (keep3 b o e))
    have fpk : ∀ {sg' : L2.St} {G' : Hp} {z' : Shared}, Inv (X.blk z3 G3 sc ce fp) [] sg' G' z' → (∀ b ∈ fp, G' b = none) → ∀ b ∈ fp, FpOk (X.blk z3 G3 sc ce fp) [] G' b := fun Kk hn b hb =>
      ⟨hn b hb, (Kk.ok.exf b hb).1, Kk.ok.exfs b hb, .inl hb, fun x c e => (Kk.ok.exf b hb).2 x c e, fun p hp => by simp at hp⟩
    have loop : codeAny (model X.prog X.w) X.A (.compLoop (.ListComp el [⟨ta, ia, fs, 0⟩] sc ps) 0 (.ref it) (.ref D) ce) (compPost (model X.prog X.w) X.A X.xe none (EP X pz sg Qq) (.ref D) z3.heap.objs.size) z4 := by
      refine compLoop_any (fun n z => ∃ i G, Inv (X.blk z3 G3 sc ce fp) [] (wipe sg (own.map (·.2))) G z ∧ tn i z.heap ∧ (∀ b ∈ fp, G b = none) ∧ W i n G) ?_ m0 ⟨0, G3, K4, t4, nf3, w0⟩
      rintro n z5 ⟨i, G5, K5, t5, n5, w5⟩
      rcases turn i n G5 w5 with ⟨halt, qq⟩ | ⟨go, Nx, hNx, step⟩
      · refine thnF (T.done (X.blk z3 G3 sc ce fp) rfl rfl rfl hc i [] z5 _ G5 (fun _ _ => False) K5 (fpk K5 n5) t5 halt) fun r z6 ⟨hr, K6⟩ => ?_
        subst hr
        have K7 : Inv X pz sg G5 z6 := K3.call' (ch := fp) K6.os K6.base K6.hok K6.bare fun b hb => ⟨(f3 b hb).1.2.2.2.1, (f3 b hb).1.2.1, (f3 b hb).1.2.2.2.2.1, (f3 b hb).1.2.2.2.2.2⟩
        have nC : G5 z3.heap.objs.size = none := lc ▸ (show G5 ce.locals = none from K6.free)
        obtain ⟨m, hm, _⟩ := K6.loc
        have ff := K3.fpOk (Nat.le_refl _) nC
        refine ⟨m, lc ▸ (show z6.heap.Ns ce.locals m from hm), fun h'' sb => ?_⟩
        obtain ⟨a0, a1, _, a3, a4, a5⟩ := ff
        exact ⟨.ref D, G5, K7.turned (t' := z6.toks) (fun b o hb e => (sb.2 b hb).trans e) a0 a1 a3 a4 a5, rfl, qq⟩
      · refine thnF (T.item (X.blk z3 G3 sc ce fp) rfl rfl rfl hc i [] z5 _ G5 (fun _ _ => False) K5 (fpk K5 n5) t5 go) fun r z6 ⟨u, hr, h6⟩ => ?_
        subst hr
        refine thnF h6 fun _ z7 ⟨x, G7, K7, r7, y7, t7, n7⟩ => ?_
        refine thnF (Bg.run _ z7 _ G7 x u _ (K7.pinned (fpk K7 n7) (T.obj _ _ t7)) r7 (step x G7 y7)) fun _ z8 ⟨sg8, G8, K8, w8, q8⟩ => ?_
        refine thnF (Bt.run _ z8 sg8 G8 _ K8 q8) fun b z9 ⟨G9, K9, q9⟩ => ?_
        have fin : ∀ {z' : Shared} {G' : Hp}, Inv (X.blk z3 G3 sc ce fp) ([] ++ pinsAt fp z7.heap) sg8 G' z' → Nx G' → ∃ m, m < n ∧ ∃ i G, Inv (X.blk z3 G3 sc ce fp) [] (wipe sg (own.map (·.2))) G z' ∧ tn i z'.heap ∧ (∀ b ∈ fp, G b = none) ∧ W i m G := fun {z' G'} Kk nx => by
          obtain ⟨m', lt, w'⟩ := hNx G' nx
          have pin : ∀ b ∈ fp, ∀ o, z7.heap.get? b = some o → z'.heap.get? b = some o ∧ G' b = none := fun b hb o e =>
            let y := Kk.pin (b, o) (List.mem_append_right _ (List.mem_append_right _ (mem_pinsAt hb e)))
            ⟨y.1, y.2.1⟩
          refine ⟨m', lt, i + 1, G', (Kk.unpinned (pins := [])).weak (by rw [← w8, wipe_length]) (fun j v e => by rw [← w8] at e; exact (wipe_some e).1), T.keep _ _ _ t7 fun b hb o e => (pin b hb o e).1, fun b hb => ?_, w'⟩
          obtain ⟨o, e, _⟩ := T.obj _ _ t7 b hb
          exact (pin b hb o e).2
        cases b with
        | false =>
          simp only [Bool.false_eq_true, if_false] at q9 ⊢; exact fin K9 q9
        | true =>
          simp only [if_true] at q9 ⊢
          refine thnF (Be.run _ z9 sg8 G9 _ K9 q9) fun v z10 ⟨y, G10, K10, r10, acc, eD, room, nx⟩ => ?_
          exact app_ok (X := X.blk z3 G3 sc ce fp) K10 eD room r10 fun z11 K11 => fin K11 nx
    exact codeAny_compStart_list loop (T.self X.A 0 _ _ _ t4 loop)
  exact hz3 ▸ goal
end
end Cc

/-! What stands where lambdas were made: the code's table grows, all else stays. -/
namespace Cc
open PySem PySem.Spec PyProof.Rows L2
open LamX
theorem tabs_but {T : List (Addr × Str)} {H H' : Hp} {s : Addr} (t : Tabs T H) (b : But s H H') (hs : ∃ xs, H s = some (.lst xs)) : Tabs T H' := fun p hp => by
  obtain ⟨xs, hx⟩ := hs
  obtain ⟨ps, h1, h2, h3⟩ := t p hp
  refine ⟨ps, b _ _ (ne_of h1 hx fun z => nomatch z) h1, h2, fun pos cv hc => ?_⟩
  obtain ⟨c0, e1, e2⟩ := h3 pos cv hc
  exact ⟨c0, e1, b _ _ (ne_of e2 hx fun z => by unfold CodeO at z; cases z) e2⟩
theorem drawAt_extN {K : PySem.W.Frag} {H H' : Hp} {s : Addr} (h : DrawAt K H s) (e : ExtN H H') : DrawAt K H' s := by
  obtain ⟨a, ns, p, x, y, e1, q, l, z⟩ := h
  exact ⟨a, ns, p, x, y, e _ _ e1 (fun _ z => by cases z), q.keep fun b o u w => e _ _ w fun _ z => (by cases z), l, z⟩
theorem steps_extN {H H' : Hp} {vs : List V} {ss : List Stp} (h : Steps H vs ss) (e : ExtN H H') : Steps H' vs ss := h.mono fun t xs w => e _ _ w fun _ z => by cases z
theorem planAt_extN {C : Addr} {H H' : Hp} {p : Addr} {ss : List Stp} (h : PlanAt C H p ss) (e : ExtN H H') : PlanAt C H' p ss := by
  obtain ⟨dx, tp, ws, a, ⟨o, d0, b⟩, d⟩ := h
  exact ⟨dx, tp, ws, e _ _ a (fun _ z => by cases z), ⟨o, d0, e _ _ b (fun _ z => by cases z)⟩, steps_extN d e⟩
theorem extN_same {H H' : Hp} (s : Same H H') : ExtN H H' := fun b o e _ => s b o e
theorem extN_lst {H H' : Hp} {l : Addr} {xs : List V} (e : ExtN H H') (h : H l = some (.lst xs)) : H' l = some (.lst xs) := e _ _ h fun _ z => by cases z
theorem extN_none {H H' : Hp} {l : Addr} {xs : List V} (h : H l = none) (h' : H' l = some (.lst xs)) : H ≠ H' := fun z => by rw [z, h'] at h; cases h
/-- an append to a list: what else stands -/
theorem lamAt_but {H H' : Hp} {l f : Addr} {q : Str} {params : Arguments} {body : Expr} {scope : Scope} {cl : List (Str × Addr)} {ds : List V} (h : LamAt H f q params body scope cl ds) (b : But l H H') (hl : ∃ xs, H l = some (.lst xs)) : LamAt H' f q params body scope cl ds := by
  obtain ⟨xs, hx⟩ := hl
  obtain ⟨c', dv, h1, h2, h3⟩ := h
  refine ⟨c', dv, b _ _ (ne_of h1 hx fun z => by unfold LamO at z; cases z) h1, b _ _ (ne_of h2 hx fun z => by unfold CodeO at z; cases z) h2, h3.imp id fun ⟨T, v, z1, z2, z3⟩ => ⟨T, v, z1, z2, b _ _ (ne_of z3 hx fun z => nomatch z) z3⟩⟩
theorem but_app {H : Hp} {l : Addr} {o : HO} : But l H (upd H l o) := but_upd
/-- a refusal as data -/
abbrev noNum : PyData := .tuple [.str "InvalidNumber"]
def NoAt (H : Hp) (v : V) : Prop := ∃ t, v = .ref t ∧ H t = some (.tup [.str "InvalidNumber"])
theorem dp_no {K : PySem.W.Frag} {H : Hp} : ∀ {vs : List V}, (∀ v ∈ vs, NoAt H v) → DpAll K H vs (List.replicate vs.length noNum)
  | [], _ => .nil
  | v :: vs, h => by
    obtain ⟨t, rfl, ht⟩ := h v List.mem_cons_self
    exact .cons (.tup (SqT.of ht) (.cons (.str _) .nil)) (dp_no fun u hu => h u (List.mem_cons_of_mem _ hu))
theorem shaped_no : SeqAt.shaped (.list (List.replicate 5 noNum)) = true := by decide +kernel
theorem eqv_no : PyData.eqv (.list (List.replicate 5 noNum)) (.list (List.replicate 5 noNum)) = true := by decide +kernel
/-- the exceptions of the class at CN alone -/
def eN (CN : Addr) (E : XK) : XK := fun cls d H => cls = .ref CN ∧ E cls d H
end Cc

/-! The second part's outcome of a lambda: any of the nine errors. -/
namespace Cc
open PySem PySem.Spec PyProof.Rows L2
open LamX
abbrev sOutcome : Stmt := top 33
abbrev oN : List Str := ["_law_call", "e", "_law_kinds", "_law_words", "_law_word"]
theorem scOutcome : FnScope oN ["_law_call"] (defScope sOutcome) := ⟨rfl, rfl, rfl, by decide +kernel, rfl, by decide +kernel, by decide +kernel⟩
def hOut : List Stmt := match defBody sOutcome with
  | [.Try _ [.ExceptHandler _ _ b _] _ _ _] => b
  | _ => []
/-- what is told of an error: its word, and its field where the word has one -/
def Told (wd : Str) (d : Option Addr) (H : Hp) (r : List V) : Prop :=
  (inV (.str wd) [.str "operation", .str "plan", .str "few"] = true ∧ ∃ dd fs v, d = some dd ∧ H dd = some (.xd fs) ∧ fs.lookup ("index" : Str) = some v ∧ r = [.str wd, v]) ∨
  (inV (.str wd) [.str "operation", .str "plan", .str "few"] = false ∧ inV (.str wd) [.str "daybook", .str "text"] = true ∧ ∃ dd fs v, d = some dd ∧ H dd = some (.xd fs) ∧ fs.lookup ("row" : Str) = some v ∧ r = [.str wd, v]) ∨
  (inV (.str wd) [.str "operation", .str "plan", .str "few"] = false ∧ inV (.str wd) [.str "daybook", .str "text"] = false ∧ decide (V.str wd = V.str "code") = true ∧ ∃ dd fs v, d = some dd ∧ H dd = some (.xd fs) ∧ fs.lookup ("offset" : Str) = some v ∧ r = [.str wd, v]) ∨
  (inV (.str wd) [.str "operation", .str "plan", .str "few"] = false ∧ inV (.str wd) [.str "daybook", .str "text"] = false ∧ decide (V.str wd = V.str "code") = false ∧ r = [.str wd])
section
variable {K : PySem.W.Frag} {mg : Str → Option Value} {D e0 e1 e2 e3 e4 e5 e6 e7 e8 : Addr} {b0 b1 b2 b3 b4 b5 b6 b7 b8 : Bool} {j : Nat} {wd : Str}
def hRdA (a D : Addr) (wd : Str) (cls : Value) (d : Option Addr) : TS := fun De σ H => cls = .ref D ∧ (∃ x0 x2 x3 x4, σ = [x0, some (.ref a), x2, x3, x4]) ∧ (∀ dd, d = some dd → ∃ fs, H dd = some (.xd fs)) ∧ ∃ r, Told wd d H r ∧ ∀ p H', Same H H' → H' p = some (.tup r) → De.rt (.ref p) H'
theorem hand_any {P : Program} {w : World} {base : Heap} {fO a : Addr} {cdv cls : Value} {A : Around} {outer : List Env} {s : Shared} {H : Hp} {k : Nat} {oe : Obj} {d : Option Addr} {pn : List (Addr × Obj)} (NG : Nine mg e0 e1 e2 e3 e4 e5 e6 e7 e8) (KA : KindA K D e0 e1 e2 e3 e4 e5 e6 e7 e8 b0 b1 b2 b3 b4 b5 b6 b7 b8) (FL : Flags b0 b1 b2 b3 b4 b5 b6 b7 b8 j wd) (B : Bt mg)
    (hr : Room k (A.deeper (envOfC "_law_outcome" (defScope sOutcome) s.heap.objs.size fO cdv))) (hz0 : Zc cls d oe) (hf : ∃ vs, oe.data = .fields vs) :
    PSs ((cxOf CX0 P w K mg base oN "_law_outcome" (defScope sOutcome) fO cdv A outer s H E0).nox.suite a ((a, oe) :: pn)) hOut (hRdA a D wd cls d) := by
  refine ⟨fun pins z σ Hz De I ⟨e1, ⟨x0, x2, x3, x4, e3⟩, dx, r, tl, k⟩ => ?_⟩
  subst e1 e3
  have hz : Zc (.ref D) d oe := hz0
  suffices h : ∃ t, PSs ((cxOf CX0 P w K mg base oN "_law_outcome" (defScope sOutcome) fO cdv A outer s H E0).nox.suite a ((a, oe) :: pn)) hOut t ∧ t De [x0, some (.ref a), x2, x3, x4] Hz from let ⟨t, h1, h2⟩ := h; h1.run pins z _ Hz De I h2
  have h65 : ((cxOf CX0 P w K mg base oN "_law_outcome" (defScope sOutcome) fO cdv A outer s H E0).nox.suite a ((a, oe) :: pn)).A.units + 65 < cLine := by
    have z := room65 hr
    exact z
  refine ⟨_, pss_cons (ps_set (i := 2) scOutcome.nd rfl (.inl rfl) (pe_lst (pa_cons (pe_callB (call_isG KA.ec KA.tt KA.ss hz hf) (by rfl) B.isinstance (by decide +kernel) (pa_cons (pv 1) (pa_cons (pe_glob (v := .ref e0) rfl NG.t0 rfl) pa_nil))) (pa_cons (pe_callB (call_isG KA.ec KA.tt KA.ss hz hf) (by rfl) B.isinstance (by decide +kernel) (pa_cons (pv 1) (pa_cons (pe_glob (v := .ref e1) rfl NG.t1 rfl) pa_nil))) (pa_cons (pe_callB (call_isG KA.ec KA.tt KA.ss hz hf) (by rfl) B.isinstance (by decide +kernel) (pa_cons (pv 1) (pa_cons (pe_glob (v := .ref e2) rfl NG.t2 rfl) pa_nil))) pa_nil)))))
      (pss_cons (ps_expr (pe_bm PySem.F.plainAttrs_list PySem.F.slot_list_extend PySem.F.type_list_extend mt_extend (pv 2) (pa_cons (pe_lst (pa_cons (pe_callB (call_isG KA.ec KA.tt KA.ss hz hf) (by rfl) B.isinstance (by decide +kernel) (pa_cons (pv 1) (pa_cons (pe_glob (v := .ref e3) rfl NG.t3 rfl) pa_nil))) (pa_cons (pe_callB (call_isG KA.ec KA.tt KA.ss hz hf) (by rfl) B.isinstance (by decide +kernel) (pa_cons (pv 1) (pa_cons (pe_glob (v := .ref e4) rfl NG.t4 rfl) pa_nil))) (pa_cons (pe_callB (call_isG KA.ec KA.tt KA.ss hz hf) (by rfl) B.isinstance (by decide +kernel) (pa_cons (pv 1) (pa_cons (pe_glob (v := .ref e5) rfl NG.t5 rfl) pa_nil))) pa_nil)))) pa_nil)))
      (pss_cons (ps_expr (pe_bm PySem.F.plainAttrs_list PySem.F.slot_list_extend PySem.F.type_list_extend mt_extend (pv 2) (pa_cons (pe_lst (pa_cons (pe_callB (call_isG KA.ec KA.tt KA.ss hz hf) (by rfl) B.isinstance (by decide +kernel) (pa_cons (pv 1) (pa_cons (pe_glob (v := .ref e6) rfl NG.t6 rfl) pa_nil))) (pa_cons (pe_callB (call_isG KA.ec KA.tt KA.ss hz hf) (by rfl) B.isinstance (by decide +kernel) (pa_cons (pv 1) (pa_cons (pe_glob (v := .ref e7) rfl NG.t7 rfl) pa_nil))) (pa_cons (pe_callB (call_isG KA.ec KA.tt KA.ss hz hf) (by rfl) B.isinstance (by decide +kernel) (pa_cons (pv 1) (pa_cons (pe_glob (v := .ref e8) rfl NG.t8 rfl) pa_nil))) pa_nil)))) pa_nil)))
      (pss_cons (ps_if (PW.pt (pw_or (pt_cmpR op_ne (pe_bm PySem.F.plainAttrs_list PySem.F.slot_list_count PySem.F.type_list_count (mt_countL h65) (pv 2) (pa_cons pe_bl pa_nil)) pe_int (nomark _)) (pw_or1 (pt_not (pt_val (pe_callB (call_isG KA.ec KA.tt KA.ss hz hf) (by rfl) B.isinstance (by decide +kernel) (pa_cons (pv 1) (pa_cons (pe_bltn (v := .ty "ValueError") (by rfl) B.verr (by decide +kernel) rfl) pa_nil))))))))
        (pss_one (ps_ret (pe_tup (pa_cons pe_str pa_nil)))) pss_nil)
      (pss_cons (ps_set (i := 3) scOutcome.nd rfl (.inl rfl) (pe_lst (pa_cons pe_str (pa_cons pe_str (pa_cons pe_str (pa_cons pe_str (pa_cons pe_str (pa_cons pe_str (pa_cons pe_str (pa_cons pe_str (pa_cons pe_str pa_nil)))))))))))
      (pss_cons (ps_set (i := 4) scOutcome.nd rfl (.inl rfl) (pe_ix ix_list (pv 3) (pe_bm PySem.F.plainAttrs_list PySem.F.slot_list_index PySem.F.type_list_index (mt_indexD h65) (pv 2) (pa_cons pe_bl pa_nil)) (fun _ _ => rfl)))
      (pss_cons (ps_if (pt_cmpR op_in_seq (pv 4) (pe_tup (pa_cons pe_str (pa_cons pe_str (pa_cons pe_str pa_nil)))) (by rfl))
        (pss_one (ps_ret (pe_tup (pa_cons (pv 4) (pa_cons (pe_xf KA.xf KA.nI hz hf (pv 1)) pa_nil))))) pss_nil)
      (pss_cons (ps_if (pt_cmpR op_in_seq (pv 4) (pe_tup (pa_cons pe_str (pa_cons pe_str pa_nil))) (by rfl))
        (pss_one (ps_ret (pe_tup (pa_cons (pv 4) (pa_cons (pe_xf KA.xf KA.nR hz hf (pv 1)) pa_nil))))) pss_nil)
      (pss_one (ps_ret (pe_ifExp (pt_cmpR op_eq (pv 4) pe_str (nomark _)) (pe_tup (pa_cons (pv 4) (pa_cons (pe_xf KA.xf KA.nO hz hf (pv 1)) pa_nil))) (pe_tup (pa_cons (pv 4) pa_nil)))))))))))), ?_⟩
  have dk : ∀ H', Same Hz H' → ∀ dd, d = some dd → ∃ fs, H' dd = some (.xd fs) := fun H' s dd e => let ⟨fs, q⟩ := dx dd e; ⟨fs, s _ _ q⟩
  refine ⟨_, rfl, .ref e0, _, b0, rfl, dx, fun u h => h, KA.k0, _, rfl, .ref e1, _, b1, rfl, dx, fun u h => h, KA.k1, _, rfl, .ref e2, _, b2, rfl, dx, fun u h => h, KA.k2, by show 3 ≤ sizeLine; decide, fun l1 h1 => ?_⟩
  have s1 := same_upd (o := .lst [.bl b0, .bl b1, .bl b2]) h1
  have g1 := upd_same (H := Hz) (a := l1) (o := .lst [.bl b0, .bl b1, .bl b2])
  generalize upd Hz l1 (.lst [.bl b0, .bl b1, .bl b2]) = H1 at *
  refine ⟨_, rfl, .inl ⟨rfl, _, SqL.of g1⟩, _, rfl, .ref e3, _, b3, rfl, dk _ s1, fun u h => h, KA.k3, _, rfl, .ref e4, _, b4, rfl, dk _ s1, fun u h => h, KA.k4, _, rfl, .ref e5, _, b5, rfl, dk _ s1, fun u h => h, KA.k5, by show 3 ≤ sizeLine; decide, fun l2 h2 => ?_⟩
  refine ⟨l1, l2, _, _, rfl, rfl, (same_upd h2) _ _ g1, upd_same, by show 6 ≤ sizeLine; decide, ?_⟩
  have nx : ∀ (H' : Hp) (zs : List V), Same Hz H' → Same Hz (upd H' l1 (.lst zs)) := fun H' zs s b o e => by
    rw [upd_ne (ne_of_none e h1)]
    exact s _ _ e
  have s2 := nx _ [.bl b0, .bl b1, .bl b2, .bl b3, .bl b4, .bl b5] (s1.trans (same_upd (o := .lst [.bl b3, .bl b4, .bl b5]) h2))
  have g2 := upd_same (H := upd H1 l2 (.lst [.bl b3, .bl b4, .bl b5])) (a := l1) (o := .lst [.bl b0, .bl b1, .bl b2, .bl b3, .bl b4, .bl b5])
  simp only [List.cons_append, List.nil_append]
  generalize upd (upd H1 l2 (.lst [.bl b3, .bl b4, .bl b5])) l1 (.lst [.bl b0, .bl b1, .bl b2, .bl b3, .bl b4, .bl b5]) = H2 at *
  refine ⟨_, rfl, .inl ⟨rfl, _, SqL.of g2⟩, _, rfl, .ref e6, _, b6, rfl, dk _ s2, fun u h => h, KA.k6, _, rfl, .ref e7, _, b7, rfl, dk _ s2, fun u h => h, KA.k7, _, rfl, .ref e8, _, b8, rfl, dk _ s2, fun u h => h, KA.k8, by show 3 ≤ sizeLine; decide, fun l3 h3 => ?_⟩
  refine ⟨l1, l3, _, _, rfl, rfl, (same_upd h3) _ _ g2, upd_same, by show 9 ≤ sizeLine; decide, ?_⟩
  have s3 := nx _ [.bl b0, .bl b1, .bl b2, .bl b3, .bl b4, .bl b5, .bl b6, .bl b7, .bl b8] (s2.trans (same_upd (o := .lst [.bl b6, .bl b7, .bl b8]) h3))
  have g3 := upd_same (H := upd H2 l3 (.lst [.bl b6, .bl b7, .bl b8])) (a := l1) (o := .lst [.bl b0, .bl b1, .bl b2, .bl b3, .bl b4, .bl b5, .bl b6, .bl b7, .bl b8])
  simp only [List.cons_append, List.nil_append]
  generalize upd (upd H2 l3 (.lst [.bl b6, .bl b7, .bl b8])) l1 (.lst [.bl b0, .bl b1, .bl b2, .bl b3, .bl b4, .bl b5, .bl b6, .bl b7, .bl b8]) = H3 at *
  have dp : ∀ H', DpAll K H' [.bl b0, .bl b1, .bl b2, .bl b3, .bl b4, .bl b5, .bl b6, .bl b7, .bl b8] [.bool b0, .bool b1, .bool b2, .bool b3, .bool b4, .bool b5, .bool b6, .bool b7, .bool b8] := fun H' => .cons (.bl _) (.cons (.bl _) (.cons (.bl _) (.cons (.bl _) (.cons (.bl _) (.cons (.bl _) (.cons (.bl _) (.cons (.bl _) (.cons (.bl _) .nil))))))))
  refine ⟨_, rfl, .inl ⟨rfl, _, SqL.of g3⟩, l1, _, .bl true, .bool true, _, rfl, rfl, SqL.of g3, dp _, .bl _, FL.sh, by decide +kernel, FL.pl, by decide +kernel, ?_⟩
  rw [FL.one]
  refine ⟨rfl, _, rfl, iteF ?_⟩
  refine ⟨_, rfl, .ty "ValueError", _, true, rfl, dk _ s3, fun u h => h, KA.kv, _, rfl, iteF ?_⟩
  refine ⟨by show 9 ≤ sizeLine; decide, fun l4 h4 => ?_⟩
  have s4 := s3.trans (same_upd (o := .lst [.str "daybook", .str "code", .str "booking", .str "number", .str "operation", .str "plan", .str "text", .str "enough", .str "few"]) h4)
  have g4 := (same_upd (o := .lst [.str "daybook", .str "code", .str "booking", .str "number", .str "operation", .str "plan", .str "text", .str "enough", .str "few"]) h4) _ _ g3
  have w4 := upd_same (H := H3) (a := l4) (o := .lst [.str "daybook", .str "code", .str "booking", .str "number", .str "operation", .str "plan", .str "text", .str "enough", .str "few"])
  generalize upd H3 l4 (.lst [.str "daybook", .str "code", .str "booking", .str "number", .str "operation", .str "plan", .str "text", .str "enough", .str "few"]) = H4 at *
  refine ⟨_, rfl, _, rfl, .inl ⟨rfl, _, SqL.of g4⟩, l1, .bl true, .bool true, _, j, .bool true, rfl, rfl, .lst (SqL.of g4) (dp _), .bl _, FL.sh, by decide +kernel, FL.at_, by decide +kernel, FL.no, l4, _, _, .str wd, rfl, rfl, SqL.of w4, at_of (j := j) rfl FL.wd, ?_⟩
  have tk : ∀ {H' dd fs}, Same Hz H' → Hz dd = some (.xd fs) → H' dd = some (.xd fs) := fun s e => s _ _ e
  refine ⟨_, rfl, by show 3 ≤ sizeLine; decide, fun l5 h5 => ⟨l5, _, rfl, .inr (SqT.of upd_same), rfl, rfl, _, rfl, ?_⟩⟩
  have s5 := s4.trans (same_upd (o := .tup [.str "operation", .str "plan", .str "few"]) h5)
  generalize upd H4 l5 (.tup [.str "operation", .str "plan", .str "few"]) = H5 at *
  rcases tl with ⟨f1, dd, fs, v, ed, ex, el, er⟩ | tl
  · subst er ed
    exact ifT f1 ⟨_, rfl, _, rfl, rfl, rfl, dd, fs, v, rfl, tk s5 ex, el, by show 2 ≤ sizeLine; decide, fun p hp => k p _ (s5.trans (same_upd hp)) upd_same⟩
  have f1 : inV (.str wd) [.str "operation", .str "plan", .str "few"] = false := by
    rcases tl with q | q | q
    · exact q.1
    · exact q.1
    · exact q.1
  refine ifF f1 ⟨_, rfl, by show 2 ≤ sizeLine; decide, fun l6 h6 => ⟨l6, _, rfl, .inr (SqT.of upd_same), rfl, rfl, _, rfl, ?_⟩⟩
  have s6 := s5.trans (same_upd (o := .tup [.str "daybook", .str "text"]) h6)
  generalize upd H5 l6 (.tup [.str "daybook", .str "text"]) = H6 at *
  rcases tl with ⟨_, f2, dd, fs, v, ed, ex, el, er⟩ | ⟨_, f2, f3, dd, fs, v, ed, ex, el, er⟩ | ⟨_, f2, f3, er⟩
  · subst er ed
    exact ifT f2 ⟨_, rfl, _, rfl, rfl, rfl, dd, fs, v, rfl, tk s6 ex, el, by show 2 ≤ sizeLine; decide, fun p hp => k p _ (s6.trans (same_upd hp)) upd_same⟩
  · subst er ed
    exact ifF f2 ⟨_, rfl, rfl, _, rfl, ifT f3 ⟨_, rfl, _, rfl, rfl, rfl, dd, fs, v, rfl, tk s6 ex, el, by show 2 ≤ sizeLine; decide, fun p hp => k p _ (s6.trans (same_upd hp)) upd_same⟩⟩
  · subst er
    exact ifF f2 ⟨_, rfl, rfl, _, rfl, ifF f3 ⟨_, rfl, by show 1 ≤ sizeLine; decide, fun p hp => k p _ (s6.trans (same_upd hp)) upd_same⟩⟩
end
/-- a lambda at f of this def, and what its call does -/
def CanAct (X : Cx) (k : Nat) (σ : L2.St) (f : Addr) (E : XK) (H : Hp) (Q : VK) : Prop :=
  ∃ (params : Arguments) (body : Expr) (scope : Scope) (ds : List V) (tb : TE), LamAt H f (X.env.qual ++ "<lambda>") params body scope (cloFrom X.env.cells scope.names []) ds ∧ LamN X.N X.env.scope scope ∧ LamBind params body scope ds ∧
    (ds = [] → ∀ (q : Str) (cl : List (Str × Addr)) (pm cv ctv : Value), bindArgs (laFn q params body scope cl pm .none cv ctv) ⟨[], []⟩ = pure []) ∧
    (∀ (A : Around) (outer : List Env) (s : Shared) (H : Hp) (c' : Addr), Room k (A.deeper (lamEnv X scope s.heap.objs.size f c')) → PE (lamCx X A outer s H E scope f c') body tb) ∧ tb σ H Q
theorem pe_can {X : Cx} {pins : List (Addr × Obj)} {σ : L2.St} {H : Hp} {s : Shared} {CXg : CXT} {Eg : XK} {Ng : List Str} {qg : Str} {sg : Scope} {g f : Addr} {cdg : Value} {k i : Nat} {a : Str} {pn : List (Addr × Obj)} {xe : Value → Shared → Prop} {W : WX} {E : XK} {p1 p2 : Pos}
    (I : Inv X pins σ H s) (tk : Takes ((cxOf CXg X.prog X.w X.K X.mg X.base Ng qg sg g cdg X.A X.stack s H Eg).tr pn xe) W) (hW : ∀ cls d σ' H', E cls d H' → W cls d σ' H') (hr : Room (k + 1) (X.A.deeper (envOfC qg sg s.heap.objs.size g cdg)))
    (hN : Ng[i]? = some a) (hv : Vis sg a) (hd : (a == ("__debug__" : Str)) = false := by decide) (hcd : (a == ("__classdict__" : Str)) = false := by decide) : PE ((cxOf CXg X.prog X.w X.K X.mg X.base Ng qg sg g cdg X.A X.stack s H Eg).tr pn xe) (.Call (.Name a p1) [] [] p2) (fun σZ HZ Q => σZ[i]? = some (some (.ref f)) ∧ CanAct X k σ f E HZ Q) := by
  refine ⟨fun pinsZ sZ σZ HZ Q IZ ⟨hs, params, body, scope, ds, tb, h1, h2, h3, h4, h5, h6⟩ => ?_⟩
  exact (la_act (i := i) I h2 h3 h4 tk hW hr h5 hN hv hd hcd).run pinsZ sZ σZ HZ Q IZ ⟨hs, h1, h6⟩
/-- an own error, its word -/
def IsKind (K : PySem.W.Frag) (CE e0 e1 e2 e3 e4 e5 e6 e7 e8 D : Addr) (wd : Str) : Prop := PySem.W.exmOne K (.ref D) (.ref CE) = some true ∧ ∃ (b0 b1 b2 b3 b4 b5 b6 b7 b8 : Bool) (j : Nat), KindA K D e0 e1 e2 e3 e4 e5 e6 e7 e8 b0 b1 b2 b3 b4 b5 b6 b7 b8 ∧ Flags b0 b1 b2 b3 b4 b5 b6 b7 b8 j wd
/-- what is refused tells so -/
def OutA (K : PySem.W.Frag) (CE e0 e1 e2 e3 e4 e5 e6 e7 e8 : Addr) (Q : VK) : XK := fun cls d H' => ∃ (D : Addr) (wd : Str) (r : List V), cls = .ref D ∧ IsKind K CE e0 e1 e2 e3 e4 e5 e6 e7 e8 D wd ∧ (∀ dd, d = some dd → ∃ fs, H' dd = some (.xd fs)) ∧ Told wd d H' r ∧ ∀ p H2, Same H' H2 → H2 p = some (.tup r) → Q (.ref p) H2
def hRdX (K : PySem.W.Frag) (CE e0 e1 e2 e3 e4 e5 e6 e7 e8 a : Addr) (cls : Value) (d : Option Addr) : TS := fun De σ H => ∃ (D : Addr) (wd : Str), IsKind K CE e0 e1 e2 e3 e4 e5 e6 e7 e8 D wd ∧ hRdA a D wd cls d De σ H
/-- what comes out is told with the word value -/
def outQ (Q : VK) : VK := fun v H2 => ([V.str "value", v] : List V).length ≤ sizeLine ∧ ∀ p, H2 p = none → Q (.ref p) (upd H2 p (.tup [.str "value", v]))
theorem takes_len {X : Cx} {W : WX} (t : Takes X W) : Takes X (fun c d σ H => σ.length = X.N.length → W c d σ H) := fun u s' ⟨a, B, sI, pins, σ, H, cls, d, e, I, nb, up, sky, na, os, ag, w⟩ =>
  t u s' ⟨a, B, sI, pins, σ, H, cls, d, e, I, nb, up, sky, na, os, ag, w I.len⟩
/-- _law_outcome(e), e a lambda of this def -/
theorem pe_outA {X : Cx} {fO CE e0 e1 e2 e3 e4 e5 e6 e7 e8 : Addr} {fdO : FuncData} {k : Nat} {tl : TE} {e : Expr} {p pos : Pos}
    (F : Fun X.K "_law_outcome" "_law_outcome" sOutcome fO fdO) (at_ : X.mg "_law_outcome" = some (.ref fO)) (kp : PySem.W.keepIn X.K (.ref fO) = true) (hb : Binds X.K fdO ["_law_call"] [])
    (hCE : X.mg "ChairError" = some (.ref CE)) (NG : Nine X.mg e0 e1 e2 e3 e4 e5 e6 e7 e8) (B : Bt X.mg) (hr : Room (k + 2) X.A) (hg : Gl X "_law_outcome") (hl : PE X e tl)
    (he : starEach [e] X.env = (false, eval e X.env) :: starEach [] X.env := by rfl) (hpl : (backTo pos (starEach [] X.env)).any (·.1) = false := by rfl) :
    PE X (.Call (.Name "_law_outcome" p) [e] [] pos) (fun σ H Q => tCons tl tNil σ H fun vs H1 => ∃ f, vs = [.ref f] ∧ CanAct X k σ f (OutA X.K CE e0 e1 e2 e3 e4 e5 e6 e7 e8 Q) H1 (outQ Q)) := by
  refine ⟨fun pins s σ H Q I ht0 => ?_⟩
  refine wpAny_Call_Name_kw (ld_glob I hg at_ ?_ (by decide))
  refine PySem.W.callWith_K (h₀ := X.base) I.ok.mod.kin kp (thn ((pa_cons hl pa_nil he).run pos pins s σ H _ I ht0) fun us z1 ⟨vs, H1, I1, r, f, ev, ht⟩ => ⟨I1.kIn, ?_⟩) he hpl
  subst ev
  obtain ⟨oc, od, kV, doc, pm, an, cdv, ct, osl, rfl, lk, hcdO⟩ := F.ex
  have rc : codeAny (model X.prog X.w) X.A (.call (.ref fO) ⟨us, []⟩) (CR CX0 X.stack X.prog X.w H1 z1 Q E0) z1 := by
    have bt := hb z1 us I1.kIn (by rw [List.append_nil, ← r.length]; rfl)
    rw [List.append_nil] at bt
    refine run_ofS (CX := CX0) (N := oN) (ps := ["_law_call"]) lk hcdO scOutcome hr I1.env0 bt r rfl fun hr' => ?_
    have hgl : Gl (cxOf CX0 X.prog X.w X.K X.mg X.base oN "_law_outcome" (defScope sOutcome) fO cdv X.A X.stack z1 H1 E0).nox "ChairError" := rfl
    suffices h : ∃ t, PSs (cxOf CX0 X.prog X.w X.K X.mg X.base oN "_law_outcome" (defScope sOutcome) fO cdv X.A X.stack z1 H1 E0).nox (defBody sOutcome) t ∧ t { nx := fun _ H' => Q .non H', rt := Q } (L2.start oN [.ref f]) H1 from let ⟨t, h1, h2⟩ := h; ⟨t, h1.nox, h2⟩
    refine ⟨_, pss_one (ps_try_as (i := 1) (X := (cxOf CX0 X.prog X.w X.K X.mg X.base oN "_law_outcome" (defScope sOutcome) fO cdv X.A X.stack z1 H1 E0).nox) (c := .ref CE)
      (tb := fun W D σ' H' => ∃ Ech : XK, (∀ cls d σ' H', σ'.length = 5 → Ech cls d H' → W cls d σ' H') ∧ σ'[0]? = some (some (.ref f)) ∧ CanAct X k σ f Ech H' (outQ D.rt))
      (ts := fun a cls d => hRdX X.K CE e0 e1 e2 e3 e4 e5 e6 e7 e8 a cls d)
      rfl rfl scOutcome.nd rfl rfl ⟨hgl, by decide, .inl hCE⟩ L2.takes0 (fun W pn xe tk _ => ?_) (fun a oe cls d pn hz hf => ⟨fun pz z σz Hz De Iz ⟨D, wd, ⟨_, b0, b1, b2, b3, b4, b5, b6, b7, b8, j, KA, FL⟩, h⟩ => (hand_any NG KA FL B hr' hz hf).run pz z σz Hz De Iz h⟩)), ?_⟩
    · refine ⟨fun pz z σz Hz D Iz ⟨Ech, hW, h1, h2⟩ => ?_⟩
      exact (pss_one (ps_ret (pe_tup (pa_cons pe_str (pa_cons (pe_can (CXg := CX0) (Eg := E0) (Ng := oN) (i := 0) (E := Ech) I1 (takes_len tk) (fun cls d σ' H' e hl => hW cls d σ' H' hl e) hr' rfl (.inl rfl)) pa_nil))))).run pz z σz Hz D Iz ⟨h1, h2⟩
    · refine ⟨OutA X.K CE e0 e1 e2 e3 e4 e5 e6 e7 e8 Q, fun cls d σ' H' h2 ⟨D, wd, r, e1, ki, e2, e3, e4⟩ => ⟨true, by rw [e1]; exact ki.1, fun _ a ha => ⟨D, wd, ki, e1, ?_, e2, r, e3, e4⟩, fun hb => (nomatch hb)⟩, rfl, ht⟩
      match σ', h2 with
      | [x0, x1, x2, x3, x4], _ => exact ⟨x0, x2, x3, x4, rfl⟩
  refine wpAny_call (codeAny_mono rc fun z s2 q => ?_)
  cases z with
  | error e => exact (show False from q).elim
  | ok fl =>
    cases fl with
    | ret u => exact I1.after q
    | next => exact q.elim
    | brk => exact q.elim
    | cont => exact q.elim
/-- _law_outcome(lambda: body), the lambda made on the spot -/
theorem pe_outM {X : Cx} {fO CE e0 e1 e2 e3 e4 e5 e6 e7 e8 c Pt : Addr} {fdO : FuncData} {k : Nat} {T : List (Addr × Str)} {params : Arguments} {body : Expr} {scope : Scope} {tb : XK → TE} {p pos posL : Pos}
    (F : Fun X.K "_law_outcome" "_law_outcome" sOutcome fO fdO) (at_ : X.mg "_law_outcome" = some (.ref fO)) (kp : PySem.W.keepIn X.K (.ref fO) = true) (hb : Binds X.K fdO ["_law_call"] [])
    (hCE : X.mg "ChairError" = some (.ref CE)) (NG : Nine X.mg e0 e1 e2 e3 e4 e5 e6 e7 e8) (B : Bt X.mg) (hr : Room (k + 2) X.A) (hg : Gl X "_law_outcome")
    (TB : TabB X.base X.mg c Pt) (hcode : X.env.code = .ref c) (hm : (Pt, X.env.qual ++ "<lambda>") ∈ T) (hu : ∀ p ∈ T, p.1 = Pt → p.2 = X.env.qual ++ "<lambda>") (hdef : defaultsOf params X.env = ([], [])) (hkw : params.kwonlyargs = [])
    (L : LamN X.N X.env.scope scope) (hb0 : ∀ (q : Str) (cl : List (Str × Addr)) (pm cv ctv : Value), bindArgs (laFn q params body scope cl pm .none cv ctv) ⟨[], []⟩ = pure [])
    (hbody : ∀ (E : XK) (f : Addr) (A : Around) (outer : List Env) (s : Shared) (H : Hp) (c' : Addr), Room k (A.deeper (lamEnv X scope s.heap.objs.size f c')) → PE (lamCx X A outer s H E scope f c') body (tb E)) :
    PE X (.Call (.Name "_law_outcome" p) [.Lambda params body scope posL] [] pos) (fun σ H Q => Tabs T H ∧ ∀ f H1, H f = none → ExtN H H1 → Tabs T H1 → tb (OutA X.K CE e0 e1 e2 e3 e4 e5 e6 e7 e8 Q) σ H1 (outQ Q)) :=
  ⟨fun pins s σ H Q I h => (pe_outA F at_ kp hb hCE NG B hr hg (pe_lam0 TB hcode hm hu hdef hkw fun ok => L.has ok)).run pins s σ H Q I
    ⟨h.1, fun f H1 hn xt1 t1 la => ⟨f, rfl, params, body, scope, [], tb (OutA X.K CE e0 e1 e2 e3 e4 e5 e6 e7 e8 Q), la, L, .inl ⟨rfl, hb0⟩, fun _ => hb0, hbody _ f, h.2 f H1 hn xt1 t1⟩⟩⟩
end Cc

/-! Own rules: index of a tuple of texts that the written part holds; x //= e, x *= e. -/
namespace Cc
open PySem PySem.Spec PyProof.Rows L2
theorem ip_mul {X : Cx} : PIp X .Mult (rI CMul fun i j => .int (i * j)) := iop_mul
theorem ip_fdiv {X : Cx} : PIp X .FloorDiv (rI CDiv fun i j => .int (i / j)) := iop_fdiv
def rIndexTS (K : PySem.W.Frag) : V → List V → Hp → VK → Prop := fun x xs H Q => ∃ (a : Addr) (ys : List Str) (y : Str), x = V.ref a ∧ xs = [.str y] ∧ SqT K H a (ys.map V.str) ∧ y ∈ ys ∧ Q (.int ((ys.idxOf y : Nat) : Int)) H
theorem vals_strs : ∀ {ys : List Str} {us : List Value}, Vals (ys.map V.str) us → StrsAre us ys
  | [], _, .nil => .nil
  | _ :: _, _, .cons ⟨t, e⟩ r => by
    subst e
    exact .cons _ _ (vals_strs r)
theorem mt_indexTS {X : Cx} : MtR X "tuple.index" (rIndexTS X.K) := by
  intro pins s σ H x xs v us Q I rx rxs hh
  obtain ⟨a, ys, y, rfl, rfl, hs, hy, q⟩ := hh
  cases rx
  cases rxs with
  | cons ry rt =>
    cases rt
    obtain ⟨t, rfl⟩ := ry
    obtain ⟨its, rv, p, hlen⟩ := I.tuple hs
    exact PySem.SeqAt.tuple_index_strs (vs := its) p (vals_strs rv) hy ⟨.int _, H, I.tok _, ⟨_, rfl⟩, q⟩
/-- a tuple of the written part -/
def WTup (K : PySem.W.Frag) (a : Addr) : Prop := ∃ o, K.lookup a = some o ∧ o.cls = .type "tuple" ∧ o.dict = none
def tBMW (a : Addr) (r : V → List V → Hp → VK → Prop) (to : TE) (t : TA) : TE := fun σ H Q => to σ H fun x H1 => x = V.ref a ∧ t σ H1 fun xs H2 => r x xs H2 Q
theorem pe_bmW {X : Cx} {o e : Expr} {es : List Expr} {to : TE} {t : TA} {name : Str} {apos cpos : Pos} {id : String} {a : Addr} {r : V → List V → Hp → VK → Prop} (wt : WTup X.K a) (slot : Slot "tuple" name id) (hty : typeOf (.builtin id) = pure (.type "method_descriptor")) (hm : MtR X id r) (ho : PE X o to) (ha : PA X (e :: es) t)
    (hbase : attributeBase o name X.env (eval o X.env) = eval o X.env := by rfl) (hfew : ((backTo cpos (starEach (e :: es) X.env)).all (fun x => !x.1) && (backToKw cpos (keywordEach [] X.env)).all (fun x => x.1.isSome) && decide ((e :: es).length + ([] : List Keyword).length + (if ([] : List Keyword).isEmpty then 0 else 1) < 30)) = true := by rfl)
    (hline : (apos.endLine == cpos.line) = true := by rfl) (hs : starEach (e :: es) X.env = (false, eval e X.env) :: starEach es X.env := by rfl) (hpl : (backTo cpos (starEach es X.env)).any (·.1) = false := by rfl) :
    PE X (.Call (.Attribute o name apos) (e :: es) [] cpos) (tBMW a r to t) := by
  refine ⟨fun pins s σ H Q I h => wpAny_Call_method_late hbase hfew hline rfl (thn (ho.run pins s σ H _ I h) fun v s1 ⟨x, H1, I1, r1, ex, q1⟩ => ?_)⟩
  subst ex
  cases r1
  obtain ⟨ob, k1, k2, k3⟩ := wt
  have g0 := I1.kIn _ _ k1
  have ti : s1.TypeIs (.ref a) "tuple" := ⟨ob, g0, k2⟩
  refine ⟨"tuple", id, PySem.F.plainAttrs_tuple, slot, hty, ti, fun a z => ⟨ob, by cases z; exact g0, k3⟩, ?_⟩
  have hA := ha.run cpos pins s1 σ H1 _ I1 q1; rw [hs] at hA ⊢
  exact Calls.callWith_builtin (by show (false || (backTo cpos (starEach es X.env)).any (·.1)) = false; rw [hpl]; rfl) (Calls.evalArgs_plain (thn hA fun us s2 ⟨vs, H2, I2, r2, q2⟩ => hm pins s2 σ H2 (.ref a) vs (.ref a) us Q I2 rfl r2 q2))
end Cc

/-! Codes of plans: what they are, how they are read. -/
namespace Cc
open PySem
def groupsN (n : Nat) : List Int := if n < 128 then [(n : Int)] else (128 + (n : Int) % 128) :: groupsN (n / 128)
termination_by n
decreasing_by omega
theorem groups_lt {n : Nat} (h : n < 128) : groupsN n = [(n : Int)] := by
  rw [groupsN, if_pos h]
theorem groups_ge {n : Nat} (h : 128 ≤ n) : groupsN n = (128 + (n : Int) % 128) :: groupsN (n / 128) := by
  rw [groupsN, if_neg (by omega)]
theorem groups_len : ∀ (k n : Nat), n < 128 ^ (k + 1) → (groupsN n).length ≤ k + 1
  | 0, n, h => by
    rw [groups_lt (by omega)]
    exact Nat.le_refl 1
  | k + 1, n, h => by
    by_cases c : n < 128
    · rw [groups_lt c]
      show 1 ≤ _
      omega
    · rw [groups_ge (by omega), List.length_cons]
      have : n / 128 < 128 ^ (k + 1) := by
        rw [Nat.div_lt_iff_lt_mul (by decide)]
        rw [Nat.pow_succ] at h
        exact h
      have := groups_len k (n / 128) this
      omega
theorem groups_in (n : Nat) : ∀ v ∈ groupsN n, 0 ≤ v ∧ v ≤ 255 := by
  induction n using Nat.strongRecOn with | ind n ih =>
    intro v hv
    by_cases c : n < 128
    · rw [groups_lt c] at hv
      rw [List.mem_singleton.mp hv]
      omega
    · rw [groups_ge (by omega)] at hv
      rcases List.mem_cons.mp hv with eq | eq
      · rw [eq]
        omega
      · exact ih (n / 128) (by omega) v eq
def gN : Bool → List Int → Nat → Int → Int → Nat ⊕ (Int × Nat)
  | _, [], k, _, _ => .inl k
  | f, v :: r, k, w, acc => if (0 ≤ v ∧ v ≤ 255) ∧ (v = 0 → f = true) then (if v < 128 then .inr (acc + v % 128 * w, k + 1) else gN false r (k + 1) (w * 128) (acc + v % 128 * w)) else .inl k
theorem gN_groups (rest : List Int) : ∀ (n : Nat) (f : Bool) (k : Nat) (w acc : Int), (n = 0 → f = true) → gN f (groupsN n ++ rest) k w acc = .inr (acc + (n : Int) * w, k + (groupsN n).length) := by
  intro n
  induction n using Nat.strongRecOn with | ind n ih =>
    intro f k w acc hf
    by_cases c : n < 128
    · rw [groups_lt c]
      show (if _ then _ else _) = _
      rw [if_pos ⟨by omega, fun z => hf (by omega)⟩, if_pos (by omega)]
      rw [show (n : Int) % 128 = n by omega]
      rfl
    · rw [groups_ge (by omega)]
      show (if _ then _ else _) = _
      rw [if_pos ⟨by omega, fun z => by omega⟩, if_neg (by omega)]
      refine (ih (n / 128) (by omega) false (k + 1) (w * 128) (acc + (128 + (n : Int) % 128) % 128 * w) (by omega)).trans ?_
      have e1 : (128 + (n : Int) % 128) % 128 = (n : Int) % 128 := by omega
      have e2 : ((n / 128 : Nat) : Int) * (w * 128) + (n : Int) % 128 * w = (n : Int) * w := by
        have : (n : Int) = ((n / 128 : Nat) : Int) * 128 + (n : Int) % 128 := by omega
        calc ((n / 128 : Nat) : Int) * (w * 128) + (n : Int) % 128 * w = (((n / 128 : Nat) : Int) * 128 + (n : Int) % 128) * w := by
              rw [Int.add_mul, Int.mul_assoc, Int.mul_comm w 128]
          _ = (n : Int) * w := by rw [← this]
      rw [e1, List.length_cons]
      congr 2
      · omega
      · omega
/-- what a number that is read is like -/
theorem gN_in : ∀ (r : List Int) (f : Bool) (k : Nat) (w acc : Int), 0 ≤ w → 0 ≤ acc → (∀ e, gN f r k w acc = .inl e → k ≤ e ∧ e ≤ k + r.length) ∧ ∀ n j, gN f r k w acc = .inr (n, j) → 0 ≤ n ∧ k < j ∧ j ≤ k + r.length
  | [], f, k, w, acc, hw, ha => ⟨fun e h => by injection h with h; rw [← h]; exact ⟨Nat.le_refl _, Nat.le_refl _⟩, fun n j h => (nomatch h)⟩
  | v :: r, f, k, w, acc, hw, ha => by
    unfold gN
    by_cases c : (0 ≤ v ∧ v ≤ 255) ∧ (v = 0 → f = true)
    · have hm : 0 ≤ v % 128 * w := Int.mul_nonneg (by omega) hw
      rw [if_pos c]
      by_cases d : v < 128
      · rw [if_pos d]
        refine ⟨fun e h => (nomatch h), fun n j h => ?_⟩
        injection h with h
        injection h with h1 h2
        rw [List.length_cons]
        exact ⟨by omega, by omega, by omega⟩
      · rw [if_neg d]
        obtain ⟨a, b⟩ := gN_in r false (k + 1) (w * 128) (acc + v % 128 * w) (by omega) (by omega)
        rw [List.length_cons]
        exact ⟨fun e h => by have := a e h; omega, fun n j h => by have := b n j h; omega⟩
    · rw [if_neg c]
      refine ⟨fun e h => ?_, fun n j h => (nomatch h)⟩
      injection h with h
      omega
def needF (ns : List Int) (k : Nat) : Nat ⊕ (Int × Nat) :=
  match gN true (ns.drop k) k 1 0 with
  | .inl e => .inl e
  | .inr (n, j) => if n ≤ 1000000000000000000 then .inr (n, j) else .inl k
def stF (ns : List Int) (k : Nat) : Nat ⊕ (Stp × Nat) :=
  match ns[k]? with
  | none => .inl k
  | some v => if v = 2 then .inr (.turn, k + 1) else if v = 0 ∨ v = 1 then (match needF ns (k + 1) with
    | .inl e => .inl e
    | .inr (n, j) => .inr (.meet (decide (v = 0)) n, j)) else .inl k
def rdSteps (ns : List Int) : Nat → Nat → List Stp → Nat ⊕ (List Stp × Nat)
  | 0, k, acc => .inr (acc, k)
  | m + 1, k, acc => match stF ns k with
    | .inl e => .inl e
    | .inr (s, j) => rdSteps ns m j (acc ++ [s])
def sumF (ns : List Int) : Int := ns.foldl (fun t v => (7 * t + v) % 251) 11
def readF (ns : List Int) : Nat ⊕ List Stp :=
  match ns[0]? with
  | none => .inl 0
  | some v0 => if v0 = 99 then (match ns[1]? with
    | none => .inl 1
    | some m => if 0 ≤ m ∧ m ≤ 60 then (match rdSteps ns m.toNat 2 [] with
      | .inl e => .inl e
      | .inr (ss, k) => match ns[k]? with
        | none => .inl k
        | some v => if v = sumF (ns.take k) then (if k + 1 < ns.length then .inl (k + 1) else .inr ss) else .inl k) else .inl 1) else .inl 0
/-! ### encoding -/
def stepC : Stp → List Int
  | .turn => [2]
  | .meet b n => (if b then 0 else 1) :: groupsN n.toNat
def codeF (ss : List Stp) : List Int := 99 :: (ss.length : Int) :: (ss.map stepC).flatten
def encF (ss : List Stp) : List Int := codeF ss ++ [sumF (codeF ss)]
theorem drop_at {ns pre post : List Int} {k : Nat} (e : ns = pre ++ post) (h : pre.length = k) : ns.drop k = post := by
  rw [e, ← h, List.drop_left]
theorem get_at {ns pre post : List Int} {k : Nat} {v : Int} (e : ns = pre ++ v :: post) (h : pre.length = k) : ns[k]? = some v := by
  rw [e, ← h, List.getElem?_append_right (Nat.le_refl _), Nat.sub_self]
  rfl
theorem stF_enc {ns pre post : List Int} {k : Nat} {s : Stp} (ok : s.ok 1000000000000000000) (e : ns = pre ++ (stepC s ++ post)) (h : pre.length = k) : stF ns k = .inr (s, k + (stepC s).length) := by
  cases s with
  | turn =>
    unfold stF
    rw [get_at (pre := pre) (post := post) (v := 2) e h]
    rfl
  | meet b n =>
    have hn : 0 ≤ n ∧ n ≤ 1000000000000000000 := ok
    unfold stF
    rw [get_at (pre := pre) (post := groupsN n.toNat ++ post) (v := if b then 0 else 1) e h]
    have hd : ns.drop (k + 1) = groupsN n.toNat ++ post := drop_at (pre := pre ++ [if b then 0 else 1]) (by rw [e, List.append_assoc]; rfl) (by rw [List.length_append, h]; rfl)
    have hg : needF ns (k + 1) = .inr (n, k + 1 + (groupsN n.toNat).length) := by
      unfold needF
      rw [hd, gN_groups post n.toNat true _ _ _ fun _ => rfl]
      dsimp only
      rw [show (0 : Int) + (n.toNat : Int) * 1 = n by omega, if_pos hn.2]
    have hl : k + (stepC (.meet b n)).length = k + 1 + (groupsN n.toNat).length := by
      show k + ((groupsN n.toNat).length + 1) = _
      omega
    rw [hl]
    cases b with
    | true =>
      show (if (0 : Int) = 2 then _ else _) = _
      rw [if_neg (by decide)]
      show (if (0 : Int) = 0 ∨ (0 : Int) = 1 then _ else _) = _
      rw [if_pos (.inl rfl), hg]
      rfl
    | false =>
      show (if (1 : Int) = 2 then _ else _) = _
      rw [if_neg (by decide)]
      show (if (1 : Int) = 0 ∨ (1 : Int) = 1 then _ else _) = _
      rw [if_pos (.inr rfl), hg]
      rfl
theorem rdSteps_enc {ns post : List Int} : ∀ (ss : List Stp) (pre : List Int) (k : Nat) (acc : List Stp), (∀ s ∈ ss, s.ok 1000000000000000000) → ns = pre ++ ((ss.map stepC).flatten ++ post) → pre.length = k →
    rdSteps ns ss.length k acc = .inr (acc ++ ss, k + (ss.map stepC).flatten.length)
  | [], pre, k, acc, _, _, _ => by
    show Sum.inr (acc, k) = _
    rw [List.append_nil]
    rfl
  | s :: ss, pre, k, acc, ok, e, h => by
    have e1 : ns = pre ++ (stepC s ++ ((ss.map stepC).flatten ++ post)) := by
      rw [e, List.map_cons, List.flatten_cons, List.append_assoc]
    show (match stF ns k with | .inl e => _ | .inr (s, j) => rdSteps ns ss.length j (acc ++ [s])) = _
    rw [stF_enc (ok s List.mem_cons_self) e1 h]
    show rdSteps ns ss.length (k + (stepC s).length) (acc ++ [s]) = _
    rw [rdSteps_enc ss (pre ++ stepC s) (k + (stepC s).length) (acc ++ [s]) (fun t ht => ok t (List.mem_cons_of_mem _ ht)) (by rw [e1, List.append_assoc]) (by rw [List.length_append, h])]
    rw [List.append_assoc, List.map_cons, List.flatten_cons, List.length_append, Nat.add_assoc]
    rfl
theorem read_enc {ss : List Stp} (ok : ∀ s ∈ ss, s.ok 1000000000000000000) (hl : ss.length ≤ 60) : readF (encF ss) = .inr ss := by
  unfold readF
  have e0 : (encF ss)[0]? = some 99 := rfl
  have e1 : (encF ss)[1]? = some (ss.length : Int) := rfl
  rw [e0, e1]
  dsimp only
  rw [if_pos rfl, if_pos ⟨by omega, by omega⟩, Int.toNat_natCast]
  have e : encF ss = [99, (ss.length : Int)] ++ ((ss.map stepC).flatten ++ [sumF (codeF ss)]) := rfl
  rw [rdSteps_enc ss [99, (ss.length : Int)] 2 [] ok e rfl]
  have lc : (codeF ss).length = 2 + (ss.map stepC).flatten.length := by
    show (ss.map stepC).flatten.length + 1 + 1 = _
    omega
  dsimp only
  rw [get_at (ns := encF ss) (pre := codeF ss) (post := []) (v := sumF (codeF ss)) rfl lc]
  dsimp only
  have et : (encF ss).take (2 + (ss.map stepC).flatten.length) = codeF ss := by
    rw [← lc]
    exact List.take_left
  rw [et, if_pos rfl, if_neg (by
    show ¬ _ < (codeF ss ++ [sumF (codeF ss)]).length
    rw [List.length_append, lc, List.length_singleton]
    omega)]
  rfl
theorem sumF_more (ns : List Int) (v : Int) : sumF (ns ++ [v]) = (7 * sumF ns + v) % 251 := by
  unfold sumF
  rw [List.foldl_append]
  rfl
theorem sumF_in (ns : List Int) : 0 ≤ sumF ns ∧ sumF ns ≤ 250 := by
  rcases List.eq_nil_or_concat ns with h | ⟨a, v, h⟩
  · rw [h]
    decide
  · rw [h, List.concat_eq_append, sumF_more]
    omega
/-! ### steps that are read -/
theorem needF_in {ns : List Int} {k : Nat} (hk : k ≤ ns.length) : (∀ e, needF ns k = .inl e → k ≤ e ∧ e ≤ ns.length) ∧ ∀ n j, needF ns k = .inr (n, j) → (0 ≤ n ∧ n ≤ 1000000000000000000) ∧ k < j ∧ j ≤ ns.length := by
  obtain ⟨a, b⟩ := gN_in (ns.drop k) true k 1 0 (by decide) (by decide)
  have hl : k + (ns.drop k).length = ns.length := by
    rw [List.length_drop]
    omega
  rw [hl] at a b
  unfold needF
  cases g : gN true (ns.drop k) k 1 0 with
  | inl e =>
    refine ⟨fun e' h => ?_, fun n j h => (nomatch h)⟩
    injection h with h
    rw [← h]
    exact a e g
  | inr p =>
    obtain ⟨n, j⟩ := p
    dsimp only
    by_cases c : n ≤ 1000000000000000000
    · rw [if_pos c]
      refine ⟨fun e' h => (nomatch h), fun n' j' h => ?_⟩
      injection h with h
      injection h with h1 h2
      subst h1 h2
      have := b n j g
      omega
    · rw [if_neg c]
      refine ⟨fun e' h => ?_, fun n' j' h => by cases h⟩
      injection h with h
      omega
theorem stF_in {ns : List Int} {k : Nat} (hk : k ≤ ns.length) : (∀ e, stF ns k = .inl e → k ≤ e ∧ e ≤ ns.length) ∧ ∀ s j, stF ns k = .inr (s, j) → s.ok 1000000000000000000 ∧ k < j ∧ j ≤ ns.length := by
  unfold stF
  cases g : ns[k]? with
  | none =>
    refine ⟨fun e h => ?_, fun s j h => (nomatch h)⟩
    injection h with h
    omega
  | some v =>
    have hk2 : k < ns.length := (List.getElem?_eq_some_iff.mp g).1
    dsimp only
    by_cases c2 : v = 2
    · rw [if_pos c2]
      refine ⟨fun e h => (nomatch h), fun s j h => ?_⟩
      injection h with h
      injection h with h1 h2
      rw [← h1]
      exact ⟨trivial, by omega, by omega⟩
    · rw [if_neg c2]
      by_cases c : v = 0 ∨ v = 1
      · rw [if_pos c]
        obtain ⟨a, b⟩ := needF_in (ns := ns) (k := k + 1) (by omega)
        cases q : needF ns (k + 1) with
        | inl e =>
          refine ⟨fun e' h => ?_, fun s j h => (nomatch h)⟩
          injection h with h
          have := a e q
          omega
        | inr p =>
          obtain ⟨n, j⟩ := p
          refine ⟨fun e' h => (nomatch h), fun s j' h => ?_⟩
          injection h with h
          injection h with h1 h2
          obtain ⟨b1, b2⟩ := b n j q
          rw [← h1]
          exact ⟨b1, by omega, by omega⟩
      · rw [if_neg c]
        refine ⟨fun e h => ?_, fun s j h => (nomatch h)⟩
        injection h with h
        omega
/-! ### two codes -/
def bigC : List Int := [99, 1, 0, 255, 255, 255, 255, 255, 255, 255, 255, 13]
def smallC : List Int := [99, 1, 0, 128, 128, 144, 187, 186, 214, 173, 240, 13]
theorem read_big : readF (bigC ++ [sumF bigC]) = .inl 3 := by rfl
theorem read_small : readF (smallC ++ [sumF smallC]) = .inr [.meet true 1000000000000000000] := by rfl
end Cc

/-! Codes made: the program's and the law's. -/
namespace Cc
open PySem PySem.Spec PyProof.Rows L2
theorem sumF_take {ns : List Int} {i : Nat} {v : Int} (h : ns[i]? = some v) : sumF (ns.take (i + 1)) = (7 * sumF (ns.take i) + v) % 251 := by
  rw [take_more h, sumF_more]
theorem stepC_len {s : Stp} (h : s.ok 1000000000000000000) : (stepC s).length ≤ 10 := by
  cases s with
  | turn => show 1 ≤ 10; decide
  | meet b n =>
    have hn : 0 ≤ n ∧ n ≤ 1000000000000000000 := h
    have := groups_len 8 n.toNat (by have : (128 : Nat) ^ (8 + 1) = 9223372036854775808 := by decide
                                     omega)
    show (groupsN n.toNat).length + 1 ≤ 10
    omega
theorem flat_len : ∀ {ss : List Stp}, (∀ s ∈ ss, s.ok 1000000000000000000) → (ss.map stepC).flatten.length ≤ 10 * ss.length
  | [], _ => Nat.le_refl 0
  | s :: ss, h => by
    have a := stepC_len (h s List.mem_cons_self)
    have b := flat_len (ss := ss) fun t ht => h t (List.mem_cons_of_mem _ ht)
    rw [List.map_cons, List.flatten_cons, List.length_append, List.length_cons]
    omega
theorem code_len {ss : List Stp} (h : ∀ s ∈ ss, s.ok 1000000000000000000) (hl : ss.length ≤ 60) : (codeF ss).length ≤ 602 := by
  have := flat_len h
  show (ss.map stepC).flatten.length + 1 + 1 ≤ 602
  omega
/-- a code while it is made -/
def codeI (n : Int) (ss : List Stp) : List Int := 99 :: n :: (ss.map stepC).flatten
theorem codeI_more (n : Int) (ss : List Stp) (s : Stp) : codeI n (ss ++ [s]) = codeI n ss ++ stepC s := by
  unfold codeI
  rw [List.map_append, List.flatten_append]
  simp
def wordS : Stp → Str
  | .turn => "turn"
  | .meet b _ => roomS b
def wordN : Stp → Int
  | .turn => 2
  | .meet b _ => if b then 0 else 1
theorem word_ix (s : Stp) : wordS s ∈ ([("red" : Str), "blue", "turn"] : List Str) ∧ ((([("red" : Str), "blue", "turn"] : List Str).idxOf (wordS s) : Nat) : Int) = wordN s := by
  cases s with
  | turn => decide +kernel
  | meet b n =>
    show roomS b ∈ _ ∧ (((_ : List Str).idxOf (roomS b) : Nat) : Int) = (if b then 0 else 1)
    cases b <;> decide +kernel
theorem stepV_get (s : Stp) : (stpV s)[0]? = some (V.str (wordS s)) := by cases s <;> rfl
def spGroups : Sp := fun vs H Q _ => ∃ (n : Int), vs = [.int n] ∧ 0 ≤ n ∧ n ≤ 1000000000000000000 ∧ ∀ l H', Same H H' → H' l = some (.lst ((groupsN n.toNat).map V.int)) → Q (.ref l) H'
def spCheck (K : PySem.W.Frag) : Sp := fun vs H Q _ => ∃ (a : Addr) (ns : List Int), vs = [.ref a] ∧ SqL K H a (ns.map V.int) ∧ Q (.int (sumF ns)) H
def spEncode (C : Addr) : Sp := fun vs H Q _ => ∃ (p : Addr) (ss : List Stp), vs = [.ref p] ∧ PlanAt C H p ss ∧ ss.length ≤ 60 ∧ (∀ s ∈ ss, s.ok 1000000000000000000) ∧ ∀ l H', Same H H' → H' l = some (.lst ((encF ss).map V.int)) → Q (.ref l) H'
def spLCode : Sp := fun vs H Q _ => ∃ (l0 : Addr) (ws : List V) (ss : List Stp), vs = [.ref l0] ∧ H l0 = some (.lst ws) ∧ Steps H ws ss ∧ ss.length ≤ 60 ∧ (∀ s ∈ ss, s.ok 1000000000000000000) ∧ ∀ l H', Same H H' → H' l = some (.lst ((codeF ss).map V.int)) → Q (.ref l) H'
abbrev wordsD : List PyData := [.str "red", .str "blue", .str "turn"]
theorem word_ixD (s : Stp) : ∃ j, wordsD[j]? = some (.str (wordS s)) ∧ PyData.eqv (.str (wordS s)) (.str (wordS s)) = true ∧ (∀ (m : Nat) (z : PyData), m < j → wordsD[m]? = some z → PyData.eqv z (.str (wordS s)) = false) ∧ ((j : Nat) : Int) = wordN s ∧ SeqAt.shaped (.str (wordS s)) = true := by
  cases s with
  | turn =>
    refine ⟨2, rfl, by decide +kernel, fun m z h e => ?_, rfl, by decide +kernel⟩
    have : m = 0 ∨ m = 1 := by omega
    rcases this with rfl | rfl
    · cases e
      decide +kernel
    · cases e
      decide +kernel
  | meet b n =>
    cases b with
    | true => exact ⟨0, rfl, (by decide +kernel : PyData.eqv (.str (roomS true)) (.str (roomS true)) = true), fun m z h e => absurd h (Nat.not_lt_zero _), rfl, (by decide +kernel : SeqAt.shaped (.str (roomS true)) = true)⟩
    | false =>
      refine ⟨1, rfl, (by decide +kernel : PyData.eqv (.str (roomS false)) (.str (roomS false)) = true), fun m z h e => ?_, rfl, (by decide +kernel : SeqAt.shaped (.str (roomS false)) = true)⟩
      have : m = 0 := by omega
      subst this
      cases e
      exact (by decide +kernel : PyData.eqv (.str "red") (.str (roomS false)) = false)
def iAt (σ : L2.St) (i : Nat) : Int := match σ[i]? with
  | some (some (.int n)) => n
  | _ => 0
theorem ints_len (ns : List Int) : (ns.map V.int).length = ns.length := List.length_map _
theorem ints_app (a b : List Int) : a.map V.int ++ b.map V.int = (a ++ b).map V.int := List.map_append.symm
theorem small_sz {n : Nat} (h : n ≤ 10000000) : n ≤ sizeLine := by
  rw [sizeLine_eq]
  omega
theorem small_lt {n : Nat} (h : n ≤ 10000000) : n < sizeLine := by
  rw [sizeLine_eq]
  omega
theorem groups_9 {n : Int} (h : n ≤ 1000000000000000000) : (groupsN n.toNat).length ≤ 9 := groups_len 8 n.toNat (by
  have : (128 : Nat) ^ (8 + 1) = 9223372036854775808 := by decide
  omega)
section
variable {P : Program} {w : World} {K : PySem.W.Frag} {mg : Str → Option Value} {base : Heap} {C TU pS gS SW : Addr} {mc : Value}
abbrev s_groups_of : Stmt := top 25
abbrev n_groups_of : List Str := ["need", "groups"]
theorem sc_groups_of : FnScope n_groups_of ["need"] (defScope s_groups_of) := ⟨rfl, rfl, rfl, by decide +kernel, rfl, by decide +kernel, by decide +kernel⟩
theorem ok_groups_of {f : Addr} {fd : FuncData} (F : Fun K "groups_of" "groups_of" s_groups_of f fd) (g_GROUP_SIZE : ∃ u, mg "GROUP_SIZE" = some u ∧ RelV (.int 128) u) : FnOk P w K mg base CX0 1 f fd ["need"] spGroups := by
  refine F.ok sc_groups_of (fun vs H Q E h => ?_) (fun cdv A outer s H vs Q E hr h => ?_)
  · obtain ⟨n, rfl, _⟩ := h
    rfl
  · obtain ⟨n, rfl, n0, n1, k⟩ := h
    obtain ⟨u_GROUP_SIZE, m_GROUP_SIZE, r_GROUP_SIZE⟩ := g_GROUP_SIZE
    refine ⟨_, pss_cons (ps_set (i := 1) sc_groups_of.nd rfl (.inl rfl) (pe_lst pa_nil))
      (pss_cons (ps_while PassesOwn.never (pt_cmpR op_ge (pv 0) (pe_glob rfl m_GROUP_SIZE r_GROUP_SIZE) (nomark _))
        (pss_cons (ps_expr (pe_bm PySem.F.plainAttrs_list PySem.F.slot_list_append PySem.F.type_list_append mt_append (pv 1) (pa_cons (pe_op op_add (pe_glob rfl m_GROUP_SIZE r_GROUP_SIZE) (pe_op op_mod (pv 0) (pe_glob rfl m_GROUP_SIZE r_GROUP_SIZE))) pa_nil)))
        (pss_one (ps_aug (i := 0) sc_groups_of.nd rfl (.inl rfl) (pe_glob rfl m_GROUP_SIZE r_GROUP_SIZE) ip_fdiv))))
      (pss_cons (ps_expr (pe_bm PySem.F.plainAttrs_list PySem.F.slot_list_append PySem.F.type_list_append mt_append (pv 1) (pa_cons (pv 0) pa_nil)))
      (pss_one (ps_ret (pv 1))))), ?_⟩
    refine ⟨by show 0 ≤ sizeLine; decide, fun l hl => ?_⟩
    refine while_by (fun σ H' => ∃ (m : Nat) (gs : List Int), σ = [some (.int (m : Nat)), some (.ref l)] ∧ Same H H' ∧ H' l = some (.lst (gs.map V.int)) ∧ gs ++ groupsN m = groupsN n.toNat) (fun σ _ => (iAt σ 0).toNat)
      ⟨n.toNat, [], by rw [Int.toNat_of_nonneg n0]; rfl, same_upd hl, upd_same, rfl⟩ ?_ (fun σ H Q Q' m ⟨v, e1, i, j, e3, e4, kk, e5, q⟩ => ⟨v, e1, i, j, e3, e4, kk, e5, m _ _ q⟩)
    rintro σ H1 ⟨m, gs, rfl, s1, el, ge⟩
    have lg : gs.length ≤ 9 := by
      have := groups_9 n1
      rw [← ge, List.length_append] at this
      omega
    refine ⟨_, rfl, _, _, rfl, rfl, _, rfl, ?_⟩
    by_cases c : (128 : Int) ≤ (m : Int)
    · refine ifT (decide_eq_true c) ⟨_, rfl, .inl ⟨rfl, _, SqL.of el⟩, _, rfl, _, _, rfl, rfl, by show (0 : Int) < 128; decide, _, _, rfl, rfl, l, _, _, rfl, rfl, el, small_lt (by rw [ints_len]; omega), _, rfl, _, _, rfl, rfl, ⟨by decide, by decide⟩, ⟨m / 128, gs ++ [128 + (m : Int) % 128], ?_, same_new hl s1, ?_, ?_⟩, ?_⟩
      · show [some (V.int ((m : Int) / 128)), some (V.ref l)] = _
        rw [Int.natCast_ediv]
        rfl
      · rw [upd_same, List.map_append]
        rfl
      · rw [← ge, groups_ge (n := m) (by omega), List.append_assoc]
        rfl
      · show ((m : Int) / 128).toNat < (m : Int).toNat
        omega
    · refine ifF (decide_eq_false c) ⟨_, rfl, .inl ⟨rfl, _, SqL.of el⟩, _, rfl, l, _, _, rfl, rfl, el, small_lt (by rw [ints_len]; omega), _, rfl, k l _ (same_new hl s1) ?_⟩
      rw [upd_same, ← ge, groups_lt (n := m) (by omega), List.map_append]
      rfl
abbrev s_checksum_of : Stmt := top 26
abbrev n_checksum_of : List Str := ["numbers", "checksum", "number"]
theorem sc_checksum_of : FnScope n_checksum_of ["numbers"] (defScope s_checksum_of) := ⟨rfl, rfl, rfl, by decide +kernel, rfl, by decide +kernel, by decide +kernel⟩
theorem ok_checksum_of {f : Addr} {fd : FuncData} (F : Fun K "checksum_of" "checksum_of" s_checksum_of f fd)  : FnOk P w K mg base CX0 1 f fd ["numbers"] (spCheck K) := by
  refine F.ok sc_checksum_of (fun vs H Q E h => ?_) (fun cdv A outer s H vs Q E hr h => ?_)
  · obtain ⟨a, ns, rfl, _⟩ := h
    rfl
  · obtain ⟨a, ns, rfl, hS, k⟩ := h
    refine ⟨_, pss_cons (ps_set (i := 1) sc_checksum_of.nd rfl (.inl rfl) pe_int)
      (pss_cons (ps_for PassesOwn.never rfl (pi_list (pv 0)) (pg_name (i := 2) sc_checksum_of.nd rfl (.inl rfl))
        (pss_one (ps_set (i := 1) sc_checksum_of.nd rfl (.inl rfl) (pe_op op_mod (pe_op op_add (pe_op op_mul pe_int (pv 1)) (pv 2)) pe_int))))
      (pss_one (ps_ret (pv 1)))), ?_⟩
    refine ⟨_, rfl, a, rfl, ⟨_, hS⟩, for_list (K := K) (a := a) (xs := ns.map V.int) (fun i σ H' => H' = H ∧ ∃ v, σ = [some (.ref a), some (.int (sumF (ns.take i))), v]) ⟨rfl, none, rfl⟩ (fun i σ H' _ ⟨e, _⟩ => e ▸ hS) ?_ ?_⟩
    · rintro i x σ H1 hx ⟨rfl, v, rfl⟩
      rw [List.getElem?_map] at hx
      cases hv : ns[i]? with
      | none => rw [hv] at hx; cases hx
      | some n =>
        rw [hv] at hx
        injection hx with hx
        subst hx
        refine ⟨_, rfl, _, _, rfl, rfl, .inl ⟨by decide, by decide⟩, _, rfl, _, _, rfl, rfl, _, _, rfl, rfl, by show (0 : Int) < 251; decide, rfl, ?_⟩
        exact ⟨_, by rw [sumF_take hv]; rfl⟩
    · rintro σ H1 ⟨rfl, v, rfl⟩
      rw [ints_len, List.take_length]
      exact ⟨_, rfl, k⟩
abbrev s__law_sum : Stmt := top 37
abbrev n__law_sum : List Str := ["_law_values", "_law_total", "_law_value"]
theorem sc__law_sum : FnScope n__law_sum ["_law_values"] (defScope s__law_sum) := ⟨rfl, rfl, rfl, by decide +kernel, rfl, by decide +kernel, by decide +kernel⟩
theorem ok__law_sum {f : Addr} {fd : FuncData} (F : Fun K "_law_sum" "_law_sum" s__law_sum f fd)  : FnOk P w K mg base CX0 1 f fd ["_law_values"] (spCheck K) := by
  refine F.ok sc__law_sum (fun vs H Q E h => ?_) (fun cdv A outer s H vs Q E hr h => ?_)
  · obtain ⟨a, ns, rfl, _⟩ := h
    rfl
  · obtain ⟨a, ns, rfl, hS, k⟩ := h
    refine ⟨_, pss_cons (ps_set (i := 1) sc__law_sum.nd rfl (.inl rfl) pe_int)
      (pss_cons (ps_for PassesOwn.never rfl (pi_list (pv 0)) (pg_name (i := 2) sc__law_sum.nd rfl (.inl rfl))
        (pss_one (ps_set (i := 1) sc__law_sum.nd rfl (.inl rfl) (pe_op op_mod (pe_op op_add (pe_op op_mul pe_int (pv 1)) (pv 2)) pe_int))))
      (pss_one (ps_ret (pv 1)))), ?_⟩
    refine ⟨_, rfl, a, rfl, ⟨_, hS⟩, for_list (K := K) (a := a) (xs := ns.map V.int) (fun i σ H' => H' = H ∧ ∃ v, σ = [some (.ref a), some (.int (sumF (ns.take i))), v]) ⟨rfl, none, rfl⟩ (fun i σ H' _ ⟨e, _⟩ => e ▸ hS) ?_ ?_⟩
    · rintro i x σ H1 hx ⟨rfl, v, rfl⟩
      rw [List.getElem?_map] at hx
      cases hv : ns[i]? with
      | none => rw [hv] at hx; cases hx
      | some n =>
        rw [hv] at hx
        injection hx with hx
        subst hx
        refine ⟨_, rfl, _, _, rfl, rfl, .inl ⟨by decide, by decide⟩, _, rfl, _, _, rfl, rfl, _, _, rfl, rfl, by show (0 : Int) < 251; decide, rfl, ?_⟩
        exact ⟨_, by rw [sumF_take hv]; rfl⟩
    · rintro σ H1 ⟨rfl, v, rfl⟩
      rw [ints_len, List.take_length]
      exact ⟨_, rfl, k⟩
abbrev s_encode_plan : Stmt := top 24
abbrev n_encode_plan : List Str := ["plan", "code", "step"]
theorem sc_encode_plan : FnScope n_encode_plan ["plan"] (defScope s_encode_plan) := ⟨rfl, rfl, rfl, by decide +kernel, rfl, by decide +kernel, by decide +kernel⟩
theorem ok_encode_plan {f f_groups_of f_checksum_of : Addr} {fd fdS : FuncData} (F : Fun K "encode_plan" "encode_plan" s_encode_plan f fd) (T : Txt K mg C TU pS gS mc) (G : Gs P w K mg base C gS fdS) (g_FIRST_NUMBER : ∃ u, mg "FIRST_NUMBER" = some u ∧ RelV (.int 99) u) (D_groups_of : Dn P w K mg base 1 "groups_of" f_groups_of spGroups) (D_checksum_of : Dn P w K mg base 1 "checksum_of" f_checksum_of (spCheck K)) (WS : WTup K SW) (gSW : mg "STEP_WORDS" = some (.ref SW)) (sSW : ∀ H, SqT K H SW [.str "red", .str "blue", .str "turn"]) : FnOk P w K mg base CX0 3 f fd ["plan"] (spEncode C) := by
  refine F.ok sc_encode_plan (fun vs H Q E h => ?_) (fun cdv A outer s H vs Q E hr h => ?_)
  · obtain ⟨p, ss, rfl, _⟩ := h
    rfl
  · obtain ⟨p, ss, rfl, hp, hl, ho, k⟩ := h
    obtain ⟨u_FIRST_NUMBER, m_FIRST_NUMBER, r_FIRST_NUMBER⟩ := g_FIRST_NUMBER
    refine ⟨_, pss_cons (ps_set (i := 1) sc_encode_plan.nd rfl (.inl rfl) (pe_lst (pa_cons (pe_glob rfl m_FIRST_NUMBER r_FIRST_NUMBER) (pa_cons (pe_callB call_len (by rfl) T.b.len PySem.boot_len (pa_cons (pe_prop (pv 0) T.cl T.pr G.ok (hr.mono (by decide)) G.b .nil pass0 rfl) pa_nil)) pa_nil))))
      (pss_cons (ps_for PassesOwn.never rfl (pi_tup (pe_prop (pv 0) T.cl T.pr G.ok (hr.mono (by decide)) G.b .nil pass0 rfl)) (pg_name (i := 2) sc_encode_plan.nd rfl (.inl rfl))
        (pss_cons (ps_expr (pe_bm PySem.F.plainAttrs_list PySem.F.slot_list_append PySem.F.type_list_append mt_append (pv 1) (pa_cons (pe_bmW WS PySem.F.slot_tuple_index PySem.F.type_tuple_index mt_indexTS (pe_glob (v := .ref SW) rfl gSW rfl) (pa_cons (pe_ix ix_tup (pv 2) pe_int (fun _ _ => rfl)) pa_nil)) pa_nil)))
        (pss_one (ps_if (pt_cmpR op_eq (pe_callB call_len (by rfl) T.b.len PySem.boot_len (pa_cons (pv 2) pa_nil)) pe_int (nomark _))
          (pss_one (ps_expr (pe_bm PySem.F.plainAttrs_list PySem.F.slot_list_extend PySem.F.type_list_extend mt_extend (pv 1) (pa_cons (pe_callR D_groups_of.ok (hr.mono (by decide)) rfl D_groups_of.at_ D_groups_of.kp pass0 (pa_cons (pe_ix ix_tup (pv 2) pe_int (fun _ _ => rfl)) pa_nil)) pa_nil)))) pss_nil))))
      (pss_cons (ps_expr (pe_bm PySem.F.plainAttrs_list PySem.F.slot_list_append PySem.F.type_list_append mt_append (pv 1) (pa_cons (pe_callR D_checksum_of.ok (hr.mono (by decide)) rfl D_checksum_of.at_ D_checksum_of.kp pass0 (pa_cons (pv 1) pa_nil)) pa_nil)))
      (pss_one (ps_ret (pv 1))))), ?_⟩
    obtain ⟨dx, tp, ws, e1, e2, g⟩ := id hp
    have lw : ws.length = ss.length := g.length
    refine ⟨_, rfl, p, dx, _, rfl, e1, p, dx, _, _, rfl, e1, lk_self, _, _, rfl, .inr ⟨ws, e2.sq, rfl⟩, by show 2 ≤ sizeLine; decide, fun l hn => ?_⟩
    have s1 := same_upd (o := .lst [.int 99, .int (ws.length : Nat)]) hn
    have clen : ∀ i, (codeI ss.length (ss.take i)).length ≤ 602 := fun i => by
      have := flat_len (ss := ss.take i) fun s hs => ho s (List.mem_of_mem_take hs)
      have l2 : (ss.take i).length ≤ 60 := Nat.le_trans (List.length_take_le' _ _) hl
      show ((ss.take i).map stepC).flatten.length + 1 + 1 ≤ 602
      omega
    refine ⟨_, rfl, p, dx, _, rfl, s1 _ _ e1, p, dx, _, _, rfl, s1 _ _ e1, lk_self, tp, rfl, ⟨_, (e2.same s1).sq⟩, for_tup (K := K) (a := tp) (xs := ws) (fun i σ H' => ∃ v, σ = [some (.ref p), some (.ref l), v] ∧ Same H H' ∧ H' l = some (.lst ((codeI ss.length (ss.take i)).map V.int)))
      ⟨none, rfl, s1, by rw [upd_same, lw]; rfl⟩ (fun i σ H' _ ⟨_, _, s2, _⟩ => (e2.same s2).sq) ?_ ?_⟩
    · rintro i x σ H1 hx ⟨v, rfl, s2, el⟩
      obtain ⟨st, hst, t, rfl, ht0⟩ := g.get hx
      have ht := s2 _ _ ht0
      have os := ho st (List.mem_of_getElem? hst)
      have eI : codeI ss.length (ss.take (i + 1)) = codeI ss.length (ss.take i) ++ stepC st := by rw [take_more hst, codeI_more]
      refine ⟨_, rfl, .inl ⟨rfl, _, SqL.of el⟩, rfl, _, rfl, t, _, _, _, rfl, rfl, SqT.of ht, at_of (j := 0) rfl (stepV_get st), SW, [("red" : Str), "blue", "turn"], wordS st, rfl, rfl, sSW _, (word_ix st).1, l, _, _, rfl, rfl, el, small_lt (by rw [ints_len]; have := clen i; omega), ?_⟩
      rw [(word_ix st).2]
      have s3 := same_new (o := .lst ((codeI ss.length (ss.take i)).map V.int ++ [.int (wordN st)])) hn s2
      have el3 := upd_same (H := H1) (a := l) (o := .lst ((codeI ss.length (ss.take i)).map V.int ++ [.int (wordN st)]))
      generalize upd H1 l (.lst ((codeI ss.length (ss.take i)).map V.int ++ [.int (wordN st)])) = H3 at *
      refine ⟨_, rfl, _, _, rfl, .inr ⟨_, SqT.of (s3 _ _ ht0), rfl⟩, rfl, _, rfl, ?_⟩
      cases st with
      | turn =>
        refine iteF ⟨_, rfl, s3, ?_⟩
        rw [el3, eI, List.map_append]
        rfl
      | meet b n =>
        refine iteT ⟨_, rfl, .inl ⟨rfl, _, SqL.of el3⟩, _, rfl, t, _, _, _, rfl, rfl, SqT.of (s3 _ _ ht0), at_of (j := 1) rfl rfl, n, rfl, os.1, os.2, fun q H4 s4 eq => ⟨l, q, _, _, rfl, rfl, s4 _ _ el3, eq, small_sz ?_, ⟨_, rfl, same_new hn (s3.trans s4), ?_⟩⟩⟩
        · rw [List.length_append, ints_len, ints_len]
          have := clen i
          have := groups_9 os.2
          simp
          omega
        · rw [upd_same, eI, List.map_append, List.append_assoc]
          rfl
    · rintro σ H1 ⟨v, rfl, s2, el⟩
      rw [lw, List.take_length] at el
      have cl := code_len ho hl
      refine ⟨_, rfl, .inl ⟨rfl, _, SqL.of el⟩, _, rfl, l, codeF ss, rfl, SqL.of el, l, _, _, rfl, rfl, el, small_lt (by rw [ints_len]; exact Nat.le_trans cl (by decide)), _, rfl, k l _ (same_new hn s2) ?_⟩
      rw [upd_same]
      show some (HO.lst ((codeF ss).map V.int ++ [V.int (sumF (codeF ss))])) = _
      unfold encF
      rw [List.map_append]
      rfl
abbrev s__law_code : Stmt := top 38
abbrev n__law_code : List Str := ["_law_steps_here", "_law_values", "_law_step_here", "_law_rest"]
theorem sc__law_code : FnScope n__law_code ["_law_steps_here"] (defScope s__law_code) := ⟨rfl, rfl, rfl, by decide +kernel, rfl, by decide +kernel, by decide +kernel⟩
theorem ok__law_code {f : Addr} {fd : FuncData} (F : Fun K "_law_code" "_law_code" s__law_code f fd) (B : Bt mg) : FnOk P w K mg base CX0 3 f fd ["_law_steps_here"] spLCode := by
  refine F.ok sc__law_code (fun vs H Q E h => ?_) (fun cdv A outer s H vs Q E hr h => ?_)
  · obtain ⟨l0, ws, ss, rfl, _⟩ := h
    rfl
  · obtain ⟨l0, ws, ss, rfl, hL, gs, hl, ho, k⟩ := h
    refine ⟨_, pss_cons (ps_set (i := 1) sc__law_code.nd rfl (.inl rfl) (pe_lst (pa_cons pe_int (pa_cons (pe_callB call_len_seq (by rfl) B.len PySem.boot_len (pa_cons (pv 0) pa_nil)) pa_nil))))
      (pss_cons (ps_for PassesOwn.never rfl (pi_list (pv 0)) (pg_name (i := 2) sc__law_code.nd rfl (.inl rfl))
        (pss_cons (ps_expr (pe_bm PySem.F.plainAttrs_list PySem.F.slot_list_append PySem.F.type_list_append mt_append (pv 1) (pa_cons (pe_bm PySem.F.plainAttrs_list PySem.F.slot_list_index PySem.F.type_list_index (mt_indexD (room65 hr)) (pe_lst (pa_cons pe_str (pa_cons pe_str (pa_cons pe_str pa_nil)))) (pa_cons (pe_ix ix_tup (pv 2) pe_int (fun _ _ => rfl)) pa_nil)) pa_nil)))
        (C8.pss_cut (ps_set (i := 3) sc__law_code.nd rfl (.inl rfl) (pe_ifExp (pt_cmpR op_eq (pe_callB call_len (by rfl) B.len PySem.boot_len (pa_cons (pv 2) pa_nil)) pe_int (nomark _)) (pe_ix ix_tup (pv 2) pe_int (fun _ _ => rfl)) pe_int))
        (pss_cons (ps_while PassesOwn.never (pt_cmpR op_ge (pv 3) pe_int (nomark _))
          (pss_cons (ps_expr (pe_bm PySem.F.plainAttrs_list PySem.F.slot_list_append PySem.F.type_list_append mt_append (pv 1) (pa_cons (pe_op op_add pe_int (pe_op op_mod (pv 3) pe_int)) pa_nil)))
          (pss_one (ps_set (i := 3) sc__law_code.nd rfl (.inl rfl) (pe_op op_fdiv (pv 3) pe_int)))))
        (pss_one (ps_if (pt_cmpR op_eq (pe_callB call_len (by rfl) B.len PySem.boot_len (pa_cons (pv 2) pa_nil)) pe_int (nomark _))
          (pss_one (ps_expr (pe_bm PySem.F.plainAttrs_list PySem.F.slot_list_append PySem.F.type_list_append mt_append (pv 1) (pa_cons (pv 3) pa_nil)))) pss_nil))))))
      (pss_one (ps_ret (pv 1)))), ?_⟩
    have lw : ws.length = ss.length := gs.length
    refine ⟨_, rfl, l0, _, rfl, .inl (SqL.of hL), by show 2 ≤ sizeLine; decide, fun l hn => ?_⟩
    have s1 := same_upd (o := .lst [.int 99, .int (ws.length : Nat)]) hn
    have clen : ∀ i, (codeI ss.length (ss.take i)).length ≤ 602 := fun i => by
      have := flat_len (ss := ss.take i) fun s hs => ho s (List.mem_of_mem_take hs)
      have l2 : (ss.take i).length ≤ 60 := Nat.le_trans (List.length_take_le' _ _) hl
      show ((ss.take i).map stepC).flatten.length + 1 + 1 ≤ 602
      omega
    refine ⟨_, rfl, l0, rfl, ⟨_, SqL.of (s1 _ _ hL)⟩, for_list (K := K) (a := l0) (xs := ws) (fun i σ H' => ∃ v u, σ = [some (.ref l0), some (.ref l), v, u] ∧ Same H H' ∧ H' l = some (.lst ((codeI ss.length (ss.take i)).map V.int)))
      ⟨none, none, rfl, s1, by rw [upd_same, lw]; rfl⟩ (fun i σ H' _ ⟨_, _, _, s2, _⟩ => SqL.of (s2 _ _ hL)) ?_ ?_⟩
    · rintro i x σ H1 hx ⟨v, u, rfl, s2, el⟩
      obtain ⟨st, hst, t, rfl, ht0⟩ := gs.get hx
      have ht := s2 _ _ ht0
      have os := ho st (List.mem_of_getElem? hst)
      have eI : codeI ss.length (ss.take (i + 1)) = codeI ss.length (ss.take i) ++ stepC st := by rw [take_more hst, codeI_more]
      refine ⟨_, rfl, .inl ⟨rfl, _, SqL.of el⟩, by show 3 ≤ sizeLine; decide, fun q hq => ?_⟩
      have sq := same_upd (o := .lst [.str "red", .str "blue", .str "turn"]) hq
      have eq := upd_same (H := H1) (a := q) (o := .lst [.str "red", .str "blue", .str "turn"])
      generalize upd H1 q (.lst [.str "red", .str "blue", .str "turn"]) = H2 at *
      obtain ⟨j, x1, x2, x3, x4, x5⟩ := word_ixD st
      refine ⟨.inl ⟨rfl, _, SqL.of eq⟩, _, rfl, t, _, _, _, rfl, rfl, SqT.of (sq _ _ ht), at_of (j := 0) rfl (stepV_get st), q, .str (wordS st), .str (wordS st), wordsD, j, .str (wordS st), rfl, rfl, .lst (SqL.of eq) (.cons (.str _) (.cons (.str _) (.cons (.str _) .nil))), .str _, by decide +kernel, x5, x1, x2, x3, l, _, _, rfl, rfl, sq _ _ el, small_lt (by rw [ints_len]; have := clen i; omega), ?_⟩
      rw [x4]
      have s3 := same_new (o := .lst ((codeI ss.length (ss.take i)).map V.int ++ [.int (wordN st)])) hn (s2.trans sq)
      have el3 := upd_same (H := H2) (a := l) (o := .lst ((codeI ss.length (ss.take i)).map V.int ++ [.int (wordN st)]))
      generalize upd H2 l (.lst ((codeI ss.length (ss.take i)).map V.int ++ [.int (wordN st)])) = H3 at *
      clear x1 x2 x3 x4 x5 eq sq hq
      have ht3 := s3 _ _ ht0
      obtain ⟨m0, em0, hm9⟩ : ∃ m0 : Nat, m0 = (match st with | .turn => 0 | .meet _ n => n.toNat) ∧ (groupsN m0).length ≤ 9 := by
        refine ⟨_, rfl, ?_⟩
        cases st with
        | turn => rw [groups_lt (n := 0) (by decide)]; decide
        | meet b n => exact groups_9 os.2
      have lpre : ((codeI ss.length (ss.take i)).map V.int ++ [V.int (wordN st)]).length ≤ 603 := by
        rw [List.length_append, ints_len]
        have := clen i
        simp
        omega
      refine ⟨fun σ' H' => σ' = [some (.ref l0), some (.ref l), some (.ref t), some (.int (m0 : Nat))] ∧ H' = H3, ?_, ?_⟩
      · refine ⟨_, rfl, _, _, rfl, .inr ⟨_, SqT.of ht3, rfl⟩, rfl, _, rfl, ?_⟩
        cases st with
        | turn => exact iteF ⟨by rw [em0]; rfl, rfl⟩
        | meet b n => exact iteT ⟨_, rfl, t, _, _, _, rfl, rfl, SqT.of ht3, at_of (j := 1) rfl rfl, by rw [em0]; show [some (V.ref l0), some (V.ref l), some (V.ref t), some (V.int n)] = _; rw [Int.toNat_of_nonneg os.1], rfl⟩
      rintro σ H4 ⟨rfl, rfl⟩
      refine while_by (fun σ H' => ∃ (m : Nat) (gs : List Int), σ = [some (.ref l0), some (.ref l), some (.ref t), some (.int (m : Nat))] ∧ Same H H' ∧ H' l = some (.lst (((codeI ss.length (ss.take i)).map V.int ++ [.int (wordN st)]) ++ gs.map V.int)) ∧ gs ++ groupsN m = groupsN m0) (fun σ _ => (iAt σ 3).toNat)
        ⟨m0, [], rfl, s3, by rw [el3, List.map_nil, List.append_nil], rfl⟩ ?_ (fun σ H Q Q' m ⟨v, e1, i, j, e3, e4, kk, e5, q⟩ => ⟨v, e1, i, j, e3, e4, kk, e5, m _ _ q⟩)
      rintro σ H5 ⟨m, gs, rfl, s5, el5, ge⟩
      have lg : gs.length ≤ 9 := by
        rw [← ge, List.length_append] at hm9
        omega
      have lz : (((codeI ss.length (ss.take i)).map V.int ++ [V.int (wordN st)]) ++ gs.map V.int).length ≤ 612 := by
        rw [List.length_append, ints_len]
        omega
      refine ⟨_, rfl, _, _, rfl, rfl, _, rfl, ?_⟩
      by_cases c : (128 : Int) ≤ (m : Int)
      · refine ifT (decide_eq_true c) ⟨_, rfl, .inl ⟨rfl, _, SqL.of el5⟩, _, rfl, _, _, rfl, rfl, by show (0 : Int) < 128; decide, _, _, rfl, rfl, l, _, _, rfl, rfl, el5, small_lt (by omega), _, rfl, _, _, rfl, rfl, ⟨by decide, by decide⟩, ⟨m / 128, gs ++ [128 + (m : Int) % 128], ?_, same_new hn s5, ?_, ?_⟩, ?_⟩
        · show [some (V.ref l0), some (V.ref l), some (V.ref t), some (V.int ((m : Int) / 128))] = _
          rw [Int.natCast_ediv]
          rfl
        · rw [upd_same, List.map_append, List.append_assoc]
          rfl
        · rw [← ge, groups_ge (n := m) (by omega), List.append_assoc]
          rfl
        · show ((m : Int) / 128).toNat < (m : Int).toNat
          omega
      · refine ifF (decide_eq_false c) ⟨_, rfl, _, _, rfl, .inr ⟨_, SqT.of (s5 _ _ ht0), rfl⟩, rfl, _, rfl, ?_⟩
        cases st with
        | turn =>
          refine iteF ⟨_, _, rfl, s5, ?_⟩
          have e0 : gs = [] := by
            rw [em0, groups_lt (n := 0) (by decide), groups_lt (n := m) (by omega)] at ge
            cases gs with
            | nil => rfl
            | cons z zs => simp at ge
          rw [el5, e0, eI, List.map_append, List.map_nil, List.append_nil]
          rfl
        | meet b n =>
          refine iteT ⟨_, rfl, .inl ⟨rfl, _, SqL.of el5⟩, _, rfl, l, _, _, rfl, rfl, el5, small_lt (by omega), _, _, rfl, same_new hn s5, ?_⟩
          rw [upd_same, eI]
          have e1 : stepC (.meet b n) = wordN (.meet b n) :: (gs ++ [(m : Int)]) := by
            show _ :: groupsN n.toNat = _
            rw [show n.toNat = m0 from em0.symm, ← ge, groups_lt (n := m) (by omega)]
            rfl
          rw [e1]
          simp
    · rintro σ H1 ⟨v, u, rfl, s2, el⟩
      rw [lw, List.take_length] at el
      exact ⟨_, rfl, k l _ s2 el⟩
end
end Cc

/-! A class over ValueError called with nothing but one keyword: BaseException.__new__ takes it and drops it, then the class's own __init__ has it. -/
namespace PySem
namespace EiX
open Builtin Builtin.ObjectAttr PySem.HandSPX
/-- the written parts of a class over ValueError -/
structure Parts where
  (nm q : Str)
  ns : Addr
  (bs bm sub : List Value)
  hd : Bool
  sn : List Str
  ab : Bool
  col : Option Bool
  dd : Option Addr
  (k0 k1 k2 k3 k5 : Option Value)
/-- at C: that class -/
abbrev Parts.at (p : Parts) (h : Heap) (C : Addr) : Prop := h.get? C = some (excClassObj p.nm p.q C p.ns p.bs p.bm p.hd p.sn p.sub p.ab p.col p.dd p.k0 p.k1 p.k2 p.k3 p.k5 "ValueError.__new__")
theorem Parts.has {p : Parts} (ve : refsVE p.bm = true) {C : Addr} {t : String} {b : Bool} (e : veTail.contains (.type t) = b) : (Value.ref C :: p.bm).contains (.type t) = b := by
  rw [List.contains_cons, refsVE_contains t p.bm ve, e]
  cases b <;> rfl
section
variable {prog : Program} {w : World} {M : Model} {A : Around} {Er : Value → Shared → Prop} {R : Result → Shared → Prop} {h : Heap} {gn : Array GenState} {dw : Drawn} {tn : Nat} {sys : OsState} {C fI : Addr} {p : Parts} {fld : Str} {v : Value}
/-- the row of __new__ lets a keyword pass -/
theorem new_lets (ve : refsVE p.bm = true) (cl : p.at h C) {Q : Unit → Shared → Prop} (q : Q () ⟨h, gn, dw, tn, sys⟩) : wpAny M A (checkBuiltinCall "ValueError.__new__" ⟨[.ref C], [(fld, v)]⟩) Q Er ⟨h, gn, dw, tn, sys⟩ := by
  have over : (Value.ref C :: p.bm).contains (.type "ValueError") = true := Parts.has ve (by decide +kernel)
  have star := F.excBase_ValueError.noStar
  simp only [checkBuiltinCall, F.excBase_ValueError.newKind, F.excBase_ValueError.newSplit, F.excBase_ValueError.newRow]
  repeat (first
    | refine wpAny_loadPart_at cl ?_
    | (refine wpAny_isSubtype_exc cl ?_; rw [over])
    | refine wpAny_staticBase_exc cl ?_
    | refine wpAny_madeBy_exc cl ?_
    | simp only [bne_self_eq_false, Bool.false_eq_true, if_false]
    | wp_step)
  exact q
/-- so does type.__call__'s -/
theorem call_lets (cl : p.at h C) {Q : Unit → Shared → Prop} (q : Q () ⟨h, gn, dw, tn, sys⟩) : wpAny M A (checkBuiltinCall "type.__call__" ⟨[.ref C], [(fld, v)]⟩) Q Er ⟨h, gn, dw, tn, sys⟩ := by
  have under := tc_sub
  have ty : (⟨h, gn, dw, tn, sys⟩ : Shared).TypeIs (.ref C) "type" := ⟨_, cl, rfl⟩
  simp only [checkBuiltinCall, tc_split, tc_kind]
  repeat (any_goals (first
    | assumption
    | with_reducible refine wpAny_loadPart_at cl ?_
    | with_reducible refine wpAny_onRaise ?_
    | with_reducible refine wpAny_map ?_
    | wp_step))
/-- the heap with the empty args and the new exception -/
abbrev fresh2 (h : Heap) (C : Addr) : Heap := (h.push (W.kdv_tup [])).push (excO C h.objs.size)
/-- ValueError.__new__(C, fld = v) -/
theorem new_run (ve : refsVE p.bm = true) (cl : p.at h C) (q : R (.ok (.ret (.ref (h.objs.size + 1)))) ⟨fresh2 h C, gn, dw, tn, sys⟩) : codeAny (model prog w) A (.builtin "ValueError.__new__" ⟨[.ref C], [(fld, v)]⟩) R ⟨h, gn, dw, tn, sys⟩ := by
  have ends := F.excBase_ValueError.ends
  have few : ([] : List Value).length ≤ sizeLine := Nat.zero_le _
  have c1 : (Value.ref C :: p.bm).contains (.type "ValueError") = true := Parts.has ve (by decide +kernel)
  have c2 : (Value.ref C :: p.bm).contains (.type "AttributeError") = false := Parts.has ve (by decide +kernel)
  have c3 : (Value.ref C :: p.bm).contains (.type "NameError") = false := Parts.has ve (by decide +kernel)
  refine codeAny_builtinAt F.excBase_ValueError.entry ?_; unfold Builtin.«BaseException.__new__»; refine wpAt_bind ?_
  show wpAt _ _ _ (stack >>= fun _ => _) _ _ _
  refine wpAt_bind (wpAt_stack fun _ below => wpAt_of_wpAny ?_); wp_walk
  refine wpAt_of_wpAny ?_; rw [F.excBase_ValueError.owner]
  repeat (first
    | with_reducible refine wpAny_madeHere_exc F.excBase_ValueError.canon cl ?_
    | with_reducible refine wpAny_loadPart_at cl ?_
    | (with_reducible refine wpAny_isSubtype_exc cl ?_; first | rw [c1] | rw [c2] | rw [c3])
    | wp_step)
  show R _ _; rw [Heap.size_push]; exact q
/-- what __init__ gave back -/
def Given (Q : Fin → Shared → Prop) (Er : Value → Shared → Prop) (x : Addr) : Result → Shared → Prop := fun r s' => match r with
  | .ok (.ret u) => u = .none ∧ Q (.done (.ret (.ref x))) s'
  | .ok _ => False
  | .error e => Er e s'
theorem type_run (ve : refsVE p.bm = true) (cl : p.at h C) (li : W.Looks (model prog w) h (typeLookup (.ref C) "__init__") (some (.ref fI))) (lb : ∀ x, W.Looks (model prog w) h (bindSpecial (.ref fI) x) (.ref fI, [x])) {Q : Fin → Shared → Prop}
    (q : codeAny (model prog w) A (.call (.ref fI) ⟨[.ref (h.objs.size + 1)], [(fld, v)]⟩) (Given Q Er (h.objs.size + 1)) ⟨fresh2 h C, gn, dw, tn, sys⟩) :
    wpAny (model prog w) A (Builtin.«type.__call__» ⟨[.ref C], [(fld, v)]⟩) Q Er ⟨h, gn, dw, tn, sys⟩ := by
  repeat (first | with_reducible refine wpAny_loadPart_at cl ?_ | with_reducible refine wpAny_madeBy_exc cl ?_ | wp_step)
  refine codeAny_call_builtin_code (Code.quiet_builtin _ F.excBase_ValueError.quiet) (new_lets ve cl (new_run ve cl ?_))
  show wpAny _ _ _ _ _ _
  have up : ∀ b o, h.get? b = some o → (fresh2 h C).get? b = some o := fun b o e => Heap.get?_push_of_some _ (Heap.get?_push_of_some _ e)
  have cl2 : p.at (fresh2 h C) C := up _ _ cl
  have new2 : (fresh2 h C).get? (h.objs.size + 1) = some (excO C h.objs.size) := by heap_get
  have own : (Value.ref C :: p.bm).contains (.ref C) = true := by simp
  have li2 := li.keeps up; have lb2 := (lb (.ref (h.objs.size + 1))).keeps up
  unfold isInstance
  repeat (first | with_reducible refine wpAny_loadPart_at new2 ?_ | (with_reducible refine wpAny_isSubtype_exc cl2 ?_; rw [own]) | wp_step)
  show wpAny _ _ (typeLookup (.ref C) _) _ _ _; refine li2.at (wpAny_holding (wpAny_bind (lb2.at (wpAny_bind (wpAny_call (codeAny_mono q fun r s' z => ?_))))))
  match r, z with
  | .error _, z => exact z
  | .ok (.ret _), ⟨e, z⟩ =>
    subst e
    first | exact wpAny_pure (wpAny_pure z) | (wp_walk; exact z)
/-- C(fld = v) -/
theorem made_run (ve : refsVE p.bm = true) (cl : p.at h C) (li : W.Looks (model prog w) h (typeLookup (.ref C) "__init__") (some (.ref fI))) (lb : ∀ x, W.Looks (model prog w) h (bindSpecial (.ref fI) x) (.ref fI, [x]))
    (q : codeAny (model prog w) (A.under (.builtin "type.__call__" ⟨[.ref C], [(fld, v)]⟩)) (.call (.ref fI) ⟨[.ref (h.objs.size + 1)], [(fld, v)]⟩) (W.InitBack (h.objs.size + 1) R) ⟨fresh2 h C, gn, dw, tn, sys⟩) :
    codeAny (model prog w) A (.call (.ref C) ⟨[], [(fld, v)]⟩) R ⟨h, gn, dw, tn, sys⟩ := by
  have l1 := tc_lookup; have l2 := tc_bind (.ref C)
  have ty : (⟨h, gn, dw, tn, sys⟩ : Shared).TypeIs (.ref C) "type" := ⟨_, cl, rfl⟩
  refine codeAny_of_tree (show wpAny _ _ (callAny (.ref C) _) _ _ _ from ?_)
  repeat (any_goals (first | assumption | with_reducible refine wpAny_loadPart_at cl ?_ | wp_step))
  refine ⟨rfl, codeAny_call_builtin_at (Code.quiet_builtin _ (by decide +kernel)) entry_typeCall (call_lets cl (type_run ve cl li lb (codeAny_mono q fun r s' z => ?_)))⟩
  match r, z with
  | .error _, z => exact z
  | .ok (.ret _), z => exact z
end
end EiX
end PySem

/-! The __init__ of an own error: super().__init__(f'.. {offset} ..'); self.offset = offset. -/
namespace PySem
namespace EoX
open PySem.W PySem.Calls PyProof.Rows PySem.HandSPX PySem.EiX
def iA (p1 p2 : Pos) : Arguments := { posonlyargs := [], args := [{ arg := "self", annotation := none, pos := p1 }], vararg := none, kwonlyargs := [{ arg := "offset", annotation := none, pos := p2 }], kw_defaults := [none], kwarg := none, defaults := [] }
def iB (t1 : Str) (a1 a2 a3 a4 a5 a6 a8 a9 a10 b1 b2 b3 b4 : Pos) : List Stmt := [
  .Expr (.Call (.Attribute (.Call (.Name "super" a1) [] [] a2) "__init__" a3) [.JoinedStr [.Constant (.str t1) 0 a4, .FormattedValue (.Name "offset" a5) (-1) none a6] a8] [] a9) a10,
  .Assign [.Attribute (.Name "self" b1) "offset" b2] (.Name "offset" b3) b4]
def iS : Scope := { kind := .function, names := [(PySem.Str.ofString "self", .local), (PySem.Str.ofString "offset", .local), (PySem.Str.ofString "__class__", .free), (PySem.Str.ofString "super", .globalImplicit)], isGenerator := false, isCoroutine := false, more := [] }
/-- what is asked of such a class, at C, and of its __init__, at fI -/
structure EiTxt (P : Program) (K : Frag) (mg : Str → Option Value) (x : Str) (C fI : Addr) : Prop where
  at_ : mg x = some (.ref C)
  (kp : keepIn K (.ref C) = true)
  cls : ∃ nm q N bs bm sn sub ab col dd k0 k1 k2 k3 k5, K.lookup C = some (excClassObj nm q C N bs bm true sn sub ab col dd k0 k1 k2 k3 k5 "ValueError.__new__") ∧ refsVE bm = true
  sa : findIn K (.ref C) "__setattr__" = some (some (.builtin "object.__setattr__"))
  noN : findIn K (.ref C) "offset" = some none
  iC : findIn K (.ref C) "__init__" = some (some (.ref fI))
  tC : typeIn K (.ref fI) = some (.type "function")
  sub : subIn K (.ref C) (.type "BaseException") = some true
  ty : typeIn K (.ref C) = some (.type "type")
  sve : subIn K (.ref C) (.type "ValueError") = some true
  sup : ks_superIn K C C "__init__" = some (some (.builtin "ValueError.__init__"))
  opq : nsIn K cStatics "thirdparty.any" = some none
  nsu : mg "super" = none
  htop : (P.main.scope.names.lookup ("super" : Str)).isSome = false
  fn : ∃ (cc cda : Addr) (oc : Value) (od : Option Addr) (kV doc pm : Value) (an : Option Addr) (ct : Value) (osl : Array (Option Value)) (qual t1 : Str) (p1 p2 a1 a2 a3 a4 a5 a6 a8 a9 a10 b1 b2 b3 b4 : Pos) (cl ccl : Value) (cld cdd : Option Addr) (csl ccs : Array (Option Value)) (vs : Array Value) (file : Str) (tf : Tok),
    K.lookup fI = some ⟨oc, od, .func (ksFn "__init__" qual (iA p1 p2) (iB t1 a1 a2 a3 a4 a5 a6 a8 a9 a10 b1 b2 b3 b4) iS .none kV doc pm an (.ref cda) ct cc), osl⟩ ∧ codeIn K (.ref cda) qual = true ∧
    K.lookup cc = some ⟨cl, cld, .cell (some (.ref C)), csl⟩ ∧ K.lookup cda = some ⟨ccl, cdd, .fields vs, ccs⟩ ∧ vs[2]? = some (.str file tf) ∧ ((P.main.file : Str) == file) = true ∧ t1.length ≤ 1000 ∧ (a3.endLine == a9.line) = true
/-- what __init__ leaves of a fresh exception at x -/
structure InitEnd (h h' : Heap) (x C dx : Addr) (v : Value) : Prop where
  keep : ∀ b o, b ≠ x → h.get? b = some o → h'.get? b = some o
  obj : ∃ t1 : Addr, h'.get? x = some { cls := .ref C, dict := some dx, data := .fields #[.ref t1, .none, .none, .none, .bool false, .none] }
  dbig : h.objs.size ≤ dx
  dne : dx ≠ x
  ns : h'.Ns1 dx (fun y => if y = "offset" then some v else none)
theorem ldC {M : Model} {s : Shared} {env : Env} {m : Str → Option Value} {x : Str} {pos : Pos} {v : Value} {Q : Value → Shared → Prop} {A : Around} {E : Value → Shared → Prop} (hn : s.heap.Ns env.locals m) (hv : m x = some v) (h : Q v s)
    (hk : env.scope.kind = .function := by rfl) (hl : env.kindOf x = some .local := by rfl) (hd : (x == ("__debug__" : Str)) = false := by decide) :
    wpAny M A (eval (.Name x pos) env) Q E s := wpAny_Name (wpAny_loadName_local hk hl hn hv h) hd
/-- super().__init__ bound to the new exception, called -/
theorem call_mw {prog : Program} {w : World} {A : Around} {Er : Value → Shared → Prop} {h : Heap} {gn : Array GenState} {dw : Drawn} {tn : Nat} {sys : OsState} {C u e t0 : Addr} {p : Parts} {rest : List Value} {Q : Value → Shared → Prop}
    (cl : p.at h C) (he : h.get? e = some (excO C t0)) (hu : h.get? u = some (kxs_mw "ValueError.__init__" e)) (hrest : rest.length ≤ sizeLine)
    (hq : ∀ h' t1, (∀ b o, b ≠ e → h.get? b = some o → h'.get? b = some o) → h'.get? e = some (excO C t1) → Q .none ⟨h', gn, dw, tn, sys⟩) :
    wpAny (model prog w) A (call (.ref u) rest) Q Er ⟨h, gn, dw, tn, sys⟩ := by
  have isW : (Value.type "method-wrapper" == Value.type "method" || Value.type "method-wrapper" == Value.type "builtin_function_or_method" || Value.type "method-wrapper" == Value.type "method-wrapper") = true := by decide
  refine wpAny_call (codeAny_of_tree (show wpAny _ A.in1 (callAny (.ref u) ⟨rest, []⟩) _ _ _ from ?_))
  simp only [callAny]; refine wpAny_bind (wpAny_load hu ?_); simp only [kxs_mw, isW, if_true]
  refine KFB.if_so (by decide) (wpAny_bind (check_bound_init F.excBase_ValueError.toExcCallFacts cl he rfl (wpAny_bind (wpAny_pure (wpAny_pure ⟨plainId_quiet F.excBase_ValueError.init.plain _, codeAny_builtin F.excBase_ValueError.initEntry ?_⟩)))))
  exact exc_init_tree (cls := .ref C) (t0 := t0) (dv := none) (c2 := .none) (c3 := .none) (b4 := .bool false) he hrest fun h' k e' t' => hq h' _ k e'
theorem mc_eq {ob : Expr} {nme : Str} {vs : List Expr} {a3 a8 a9 : Pos} {env : Env} (hl : (a3.endLine == a9.line) = true) : eval (.Call (.Attribute ob nme a3) [.JoinedStr vs a8] [] a9) env = (do
    let ov ← attributeBase ob nme env (eval ob env)
    standAt a3.atName
    let (f, first) ← holding [ov] (getMethod ov nme (do return (← importBound ob env).getD true))
    callWith a9 f first (backTo a9 (starEach [.JoinedStr vs a8] env)) []) := by
  rw [arm_eval_Call]
  have e : methodCallForm (([Expr.JoinedStr vs a8] : List Expr).length + ([] : List Keyword).length) (backTo a9 (starEach [.JoinedStr vs a8] env)) (backToKw a9 (keywordEach [] env)) = true := by rfl
  unfold methodCall
  rw [e]
  unfold calleeOf methodCallPos
  rw [hl]
  rfl
theorem log_small {i : Int} (h0 : -(2 ^ 64) < i) (h1 : i < 2 ^ 64) : i.natAbs.log2 < 1920 := Cc.log_small h0 h1
theorem text_bound {i : Int} (h0 : -(2 ^ 64) < i) (h1 : i < 2 ^ 64) : (Str.ofString (toString i)).length ≤ 2000 := by
  have e := int_text_length_le (k := 1920) (by decide) (log_small h0 h1)
  rw [PySem.ofString_length]
  omega
theorem empty_len : Str.empty.length = 0 := by decide +kernel
section
variable {prog : Program} {w : World} {A : Around} {R : Result → Shared → Prop} {s : Shared} {K : Frag} {mg mb : Str → Option Value} {X : Str} {C fI : Addr}
theorem idx_init (T : EiTxt prog K mg X C fI) {x t0 : Addr} {i : Int} {tk0 : Tok} (KX : K.In s.heap) (hlim : s.heap.NoLimit) (hg : s.heap.Ns mainGlobals mg) (hb : s.heap.Ns builtinsNs mb) (hsu : mb "super" = some (.type "super"))
    (hx : s.heap.get? x = some (excO C t0)) (hnx : K.lookup x = none) (hroom : A.depth < recursionLimit) (hi : -(2 ^ 64) < i ∧ i < 2 ^ 64)
    (hq : ∀ h' tk dx, InitEnd s.heap h' x C dx (.int i tk0) → R (.ok (.ret .none)) { s with heap := h', toks := tk }) :
    codeAny (model prog w) A (.call (.ref fI) ⟨[.ref x], [("offset", .int i tk0)]⟩) R s := by
  obtain ⟨cc, cda, oc, od, kV, doc, pm, an, ct, osl, qual, t1, p1, p2, a1, a2, a3, a4, a5, a6, a8, a9, a10, b1, b2, b3, b4, cl, ccl, cld, cdd, csl, ccs, vs, file, tf, ho, hcd, hcc, hcda, hvs, hfile, l1, hln⟩ := T.fn
  obtain ⟨nm, q, N, bs, bm, sn, sub, ab, col, dd, k0, k1, k2, k3, k5, hC, hbm⟩ := T.cls
  have hcl : clsIn K C = some { name := nm, bases := bs, mro := .ref C :: bm, ns := N, qualname := q, hasDict := true, slotNames := sn, subclasses := sub, abstract := ab, collection := col, hasDel := false } := by unfold clsIn; rw [hC] <;> rfl
  have hmro : mroIn K C (.ref C) = some true := by
    unfold mroIn
    rw [hcl, Option.bind_some, if_neg (show ¬ (List.isEmpty (Value.ref C :: bm) = true) from Bool.false_ne_true)]
    simp
  have hxC : x ≠ C := fun z => by rw [z, hC] at hnx; cases hnx
  refine ks_codeAny_call_defAt (fd := ksFn "__init__" qual (iA p1 p2) (iB t1 a1 a2 a3 a4 a5 a6 a8 a9 a10 b1 b2 b3 b4) iS .none kV doc pm an (.ref cda) ct cc) (body := iB t1 a1 a2 a3 a4 a5 a6 a8 a9 a10 b1 b2 b3 b4) (binds := [("self", .ref x), ("offset", .int i tk0)])
    hroom (KX _ _ ho) rfl hlim (codeRec_of KX hcd) rfl (BindsTo.of_eq (by first | rfl | with_unfolding_all rfl)) (show ∀ y ∈ iS.names, y.2 ≠ .cell by decide) (fun y hy => ?_) (fun h₀ hns hk => ?_)
  · rcases (List.mem_cons.mp hy) with rfl | hy
    · rfl
    · rw [List.mem_singleton.mp hy]
      rfl
  · have KX₀ : K.In h₀ := KX.keeps hk
    have hns' := hns
    have hself : ([("self", .ref x), ("offset", .int i tk0)] : List (Str × Value)).reverse.lookup ("self" : Str) = some (Value.ref x) := by first | rfl | with_unfolding_all rfl | kernel_rfl
    have hidx : ([("self", .ref x), ("offset", .int i tk0)] : List (Str × Value)).reverse.lookup ("offset" : Str) = some (Value.int i tk0) := by first | rfl | with_unfolding_all rfl | kernel_rfl
    refine ks_wpAt_execs_cons (ks_wpAt_Expr_any (ks_wpAt_MethodCall ?_ (mc_eq hln)))
    refine ks_wpAt_super_base (f := fI) (cc := cda) (of := _) (oc := _) (vs := vs) (file := file) (tf := tf) rfl rfl (by decide) rfl (KX₀ _ _ ho) rfl rfl rfl (KX₀ _ _ hcda) rfl hvs hfile T.htop ?_
    refine ks_loadName_global rfl rfl (loadGlobal_builtin (hg.keeps hk) T.nsu (hb.keeps hk) hsu ⟨rfl, ?_⟩)
    refine wpAny_loadName_free rfl rfl rfl ⟨_, KX₀ _ _ hcc, rfl⟩ ?_
    refine wpAny_loadName_local rfl rfl hns hself ?_
    refine ks_wpAny_isType_cls (KX₀ _ _ hC) rfl ⟨rfl, ?_⟩
    refine ks_wpAny_call_super (KX₀ _ _ hC) rfl (hk _ _ hx) rfl (fun c z => nomatch z) (looks_mroIn KX₀ hmro) (fun h₁ e₁ kk₁ => ?_)
    have KX₁ : K.In h₁ := KX₀.keeps kk₁
    have hx₁ : h₁.get? x = some (excO C t0) := kk₁ _ _ (hk _ _ hx)
    have I₁ : InstAt h₁ x (excO C t0) C none := ⟨hx₁, rfl, rfl, trivial⟩
    have hso := e₁
    have hIV : Looks (model prog w) h₁ (isInstance (.ref x) (.type "ValueError")) true := I₁.type.andThen (looks_subIn KX₁ T.sve)
    have hsup : alongIn K "__init__" (((Value.ref C :: bm).dropWhile (· != .ref C)).drop 1) = some (some (.builtin "ValueError.__init__")) := by
      have z := T.sup
      unfold ks_superIn at z
      rw [hcl] at z
      exact z
    refine kxs_getMethod kxs_ValueError hso (looks_opaque KX₁ T.opq) (l₀ := .ref C :: bm) (fun A Q E s k q => wpAny_bind ((looks_clsIn KX₁ hcl) A _ E s k (wpAny_pure q))) rfl KX₁ hsup hIV hxC (by decide) ?_
    have k₂ : ∀ b o, h₁.get? b = some o → (h₁.push (kxs_mw "ValueError.__init__" x)).get? b = some o := fun b o e => Heap.get?_push_of_some _ e
    refine kxs_callWith (i := "ValueError.__init__") (x := x) rfl (evalArgs_plain (spliced_cons ?_))
    have li := text_bound hi.1 hi.2
    refine JoinedStr_many (pos := a8) (joinParts_cons ?_)
    refine wpAny_Constant_str (k := 0) (pos := a4) ⟨?_, joinParts_cons ?_⟩
    · simp only [Str.length_append, sizeLine_eq, empty_len]
      omega
    refine FormattedValue_plain (pos := a6) (ldC (pos := a5) (hns.keeps fun b o e => k₂ b o (kk₁ b o e)) hidx (formatField_int_small (log_small hi.1 hi.2) ⟨?_, joinParts_nil ?_ ?_⟩))
    · simp only [Str.length_append, sizeLine_eq, empty_len]
      omega
    · refine spliced_nil ⟨Heap.get?_push_at rfl rfl, ?_⟩
      refine call_mw (p := ⟨nm, q, N, bs, bm, sub, true, sn, ab, col, dd, k0, k1, k2, k3, k5⟩) (k₂ _ _ (KX₁ _ _ hC)) (k₂ _ _ hx₁) (Heap.get?_push_at rfl rfl) (by show 1 ≤ sizeLine; rw [sizeLine_eq]; decide) (fun h₃ t3 k₃ hx₃ => ?_)
      have kk : ∀ b o, b ≠ x → s.heap.get? b = some o → h₃.get? b = some o := fun b o hb e => k₃ b o hb (k₂ b o (kk₁ b o (hk b o e)))
      have KX₃ : K.In h₃ := fun b o e => kk b o (fun z => by rw [z] at e; rw [e] at hnx; cases hnx) (KX b o e)
      have hLx : s.heap.objs.size ≠ x := Nat.ne_of_gt (Heap.lt_size hx)
      obtain ⟨oL, esL, epL, hoL, rL⟩ := hns
      have hns₃ : h₃.Ns s.heap.objs.size (fun y => ([("self", .ref x), ("offset", .int i tk0)] : List (Str × Value)).reverse.lookup y) := ⟨oL, esL, epL, k₃ _ _ hLx (k₂ _ _ (kk₁ _ _ hoL)), rL⟩
      refine ks_wpAt_execs_cons (wpAt_of_wpAny (plainObj_wpAny_Assign_Attribute ?_))
      refine ldC hns₃ hidx (ldC hns₃ hself ?_)
      refine set_plain KX₃ (ox := excO C t3) (od := none) ⟨hx₃, rfl, rfl, trivial⟩ T.sa ?_
      refine exc_osa KX₃ hx₃ hcl (show refsVE (.ref C :: bm) = true from hbm) rfl T.noN (fun h₄ tk₄ dx k₄ dn dne hx₄ hn₄ => ?_)
      refine wpAt_of_wpAny (wpAny_execs_nil (hq h₄ tk₄ dx ⟨fun b o hb e => k₄ b o hb (kk b o hb e), ⟨_, hx₄⟩, ?_, dne, hn₄⟩))
      have z : s.heap.objs.size < h₃.objs.size := Heap.lt_size (k₃ _ _ hLx (k₂ _ _ (kk₁ _ _ hoL)))
      exact Nat.le_of_lt (Nat.lt_of_lt_of_le z dn)
    · simp only [Str.length_append, sizeLine_eq, empty_len]
      omega
end
end EoX
end PySem

/-! X(index = e), an own error made. -/
namespace PySem
namespace EoX
open PySem.EiX
open PySem.W PySem.Calls PyProof.Rows PySem.HandSPX
/-- a made error -/
structure OwnMade (h h' : Heap) (e C d : Addr) (v : Value) : Prop where
  keep : ∀ b o, h.get? b = some o → h'.get? b = some o
  new : h.objs.size ≤ e
  obj : ∃ oe vs, h'.get? e = some oe ∧ oe.cls = .ref C ∧ oe.dict = some d ∧ oe.data = .fields vs ∧ vs[1]? = some .none
  dbig : h.objs.size ≤ d
  dne : d ≠ e
  ns : h'.Ns1 d (fun y => if y = "offset" then some v else none)
section
variable {prog : Program} {w : World} {A : Around} {R : Result → Shared → Prop} {s : Shared} {K : Frag} {mg mb : Str → Option Value} {X : Str} {C fI : Addr}
theorem idx_made (T : EiTxt prog K mg X C fI) {i : Int} {tk0 : Tok} (KX : K.In s.heap) (hlim : s.heap.NoLimit) (hg : s.heap.Ns mainGlobals mg) (hb : s.heap.Ns builtinsNs mb) (hsu : mb "super" = some (.type "super")) (hroom : A.depth + 1 < recursionLimit) (hi : -(2 ^ 64) < i ∧ i < 2 ^ 64)
    (hq : ∀ h' tk e d, OwnMade s.heap h' e C d (.int i tk0) → R (.ok (.ret (.ref e))) { s with heap := h', toks := tk }) :
    codeAny (model prog w) A (.call (.ref C) ⟨[], [("offset", .int i tk0)]⟩) R s := by
  obtain ⟨nm, q, N, bs, bm, sn, sub, ab, col, dd, k0, k1, k2, k3, k5, hC, hbm⟩ := T.cls
  obtain ⟨hp, g, dr, tk, os⟩ := s
  have k : ∀ b o, hp.get? b = some o → ((hp.push (kdv_tup [])).push (excO C hp.objs.size)).get? b = some o := fun b o e => Heap.get?_push_of_some _ (Heap.get?_push_of_some _ e)
  have hget : ((hp.push (kdv_tup [])).push (excO C hp.objs.size)).get? (hp.objs.size + 1) = some (excO C hp.objs.size) := by heap_get
  have hnx : K.lookup (hp.objs.size + 1) = none := by
    cases e : K.lookup (hp.objs.size + 1) with
    | none => rfl
    | some o =>
      have z : hp.get? (hp.objs.size + 1) = some o := KX _ _ e
      exact absurd (Nat.lt_of_succ_lt (Heap.lt_size z)) (Nat.lt_irrefl _)
  refine made_run (p := ⟨nm, q, N, bs, bm, sub, true, sn, ab, col, dd, k0, k1, k2, k3, k5⟩) hbm (KX _ _ hC) (looks_findIn KX T.iC) (fun self => bind_fn KX self T.tC) ?_
  refine idx_init (s := ⟨(hp.push (kdv_tup [])).push (excO C hp.objs.size), g, dr, tk, os⟩) T (KX.keeps k) (hlim.keeps k) (hg.keeps k) (hb.keeps k) hsu hget hnx ?_ hi fun h' tk' dx ⟨k', ⟨t1, hx⟩, dn, dne, hns⟩ => ?_
  · show A.depth + 1 < recursionLimit
    exact hroom
  · have old : ∀ b o, hp.get? b = some o → h'.get? b = some o := fun b o e => k' b o (Nat.ne_of_lt (Nat.lt_succ_of_lt (Heap.lt_size e))) (k b o e)
    have z : hp.objs.size + 1 + 1 ≤ dx := by
      first
        | (simpa only [Heap.size_push] using dn)
        | exact dn
        | (have q := dn; rw [Heap.size_push, Heap.size_push] at q; exact q)
    exact ⟨rfl, hq h' tk' (hp.objs.size + 1) dx ⟨old, Nat.le_succ _, ⟨_, _, hx, rfl, rfl, rfl, rfl⟩, Nat.le_trans (Nat.le_trans (Nat.le_succ _) (Nat.le_succ _)) z, dne, hns⟩⟩
end
end EoX
end PySem
namespace Cc
open PySem PySem.Spec PyProof.Rows L2
theorem relO_off {v : V} {v' : Value} (r : RelV v v') (f : Str) : RelO (List.lookup f [(("offset" : Str), v)]) (if f = "offset" then some v' else none) := by
  by_cases hw : f = "offset"
  · subst hw
    rw [if_pos rfl]
    have q : List.lookup ("offset" : Str) [(("offset" : Str), v)] = some v := by simp [List.lookup]
    rw [q]
    exact r
  · rw [if_neg hw]
    have qw : (f == ("offset" : Str)) = false := by simpa using hw
    have q2 : List.lookup f [(("offset" : Str), v)] = none := by simp [List.lookup, qw]
    rw [q2]
    trivial
/-- X(index = e) -/
def tMkoff (C : Addr) (ta : TA) : L2.St → Hp → XK → Prop := fun σ H Q => ta σ H fun vs H1 => ∃ i : Int, vs = [.int i] ∧ (-(2 ^ 64) < i ∧ i < 2 ^ 64) ∧ ∀ d, H1 d = none → Q (.ref C) (some d) (upd H1 d (.xd [(("offset" : Str), .int i)]))
section
variable {X : Cx}
theorem pmk_off {x : Str} {C fI : Addr} {e : Expr} {te : TE} {p kpos pos : Pos} {k : Nat} (T : PySem.EoX.EiTxt X.prog X.K X.mg x C fI) (hr : Room k X.A) (he : PE X e te) (hg : Gl X x) (hdb : (x == ("__debug__" : Str)) = false := by decide)
    (hall : (backToKw pos (keywordEach [⟨some "offset", e, kpos⟩] X.env)).all (·.1.isSome) = true := by rfl) (hks : (backToKw pos (keywordEach [⟨some "offset", e, kpos⟩] X.env)).filterMap (·.1) = [("offset" : Str)] := by rfl)
    (hpl : ((backTo pos (starEach [] X.env)).any (·.1) || (backToKw pos (keywordEach [⟨some "offset", e, kpos⟩] X.env)).any (·.1.isNone)) = false := by rfl) :
    PMk X (.Call (.Name x p) [] [⟨some "offset", e, kpos⟩] pos) (tMkoff C (tCons te tNil)) := by
  intro pins s σ H Q I h
  refine wpAny_Call_Name_kw (ld_glob I hg T.at_ ?_ hdb)
  refine PySem.W.callWith_KW0 (h₀ := X.base) I.ok.mod.kin T.kp hall ?_ hpl
  refine thn ((pk_cons he pk_nil).run pos pins s σ H _ I h) fun ws s1 ⟨vs, H1, I1, r1, i, ev, hi, q1⟩ => ⟨I1.kIn, ?_⟩
  subst ev
  rw [hks]
  cases r1 with
  | cons rv rn =>
    rename_i v' us'
    cases rn
    obtain ⟨tk0, rfl⟩ := rv
    show wpAny _ _ (call (.ref C) [] [("offset", .int i tk0)]) _ _ _
    have hlim := I1.nolimit
    obtain ⟨mb, hb1, hb2⟩ := I1.mod.blt
    have G := I1.mod.glob.keeps I1.bk
    have B := hb1.keeps I1.bk
    obtain ⟨hp, g, dr, tk, os⟩ := s1
    refine wpAny_call (PySem.EoX.idx_made T I1.kIn hlim G B ((hb2 _ (by decide)).trans (by first | rfl | decide +kernel)) (by have := hr.dp; omega) hi fun h' tk' e d M => ?_)
    show MkP X pins σ Q (.ref e) ⟨h', g, dr, tk', os⟩
    obtain ⟨oe, fv, hoe, hc, hd, hdat, h1⟩ := M.obj
    have hns := M.ns
    obtain ⟨G', g1, g2⟩ := restrict h' fun b => decide (b ≠ e)
    have gk : ∀ b, b ≠ e → G'.get? b = h'.get? b := fun b hb => g1 b (decide_eq_true hb)
    have ge : G'.get? e = none := g2 e (by simp)
    have old : ∀ b o, hp.get? b = some o → G'.get? b = some o := fun b o q => (gk b (Nat.ne_of_lt (Nat.lt_of_lt_of_le (Heap.lt_size q) M.new))).trans (M.keep b o q)
    have ob : ObjOk X.prog X.w (upd H1 d (.xd [(("offset" : Str), .int i)])) G' d (.xd [(("offset" : Str), .int i)]) :=
      ⟨_, hns.at (fun o q => (gk d M.dne).trans q), fun f => relO_off (v := .int i) (v' := .int i tk0) ⟨tk0, rfl⟩ f⟩
    have J : Inv X pins σ (upd H1 d (.xd [(("offset" : Str), .int i)])) ⟨G', g, dr, tk', os⟩ := I1.laid (t' := tk') old M.dbig ob
    refine ⟨e, oe, fv, ⟨G', g, dr, tk', os⟩, _, .ref C, some d, rfl, J, fun b o q => ?_, ge, hoe, ⟨hc, hd⟩, hdat, h1, ?_, rfl, I1.bare, raises_own T.sub T.ty, q1 d (I1.hok.fresh M.dbig)⟩
    · by_cases hb : b = e
      · have q' : G'.get? b = some o := q
        rw [hb, ge] at q'; cases q'
      · exact (gk b hb).symm.trans q
    · rw [upd_ne (Ne.symm M.dne)]
      exact I1.hok.fresh M.new
end
end Cc

/-! Codes read: the program's reader. -/
namespace Cc
open PySem PySem.Spec PyProof.Rows L2
theorem putF_skip {f g : Str} {v x : V} {r : List (Str × V)} (h : ¬ g = f) : putF f v ((g, x) :: r) = (g, x) :: putF f v r := if_neg h
theorem putF_hit {f : Str} {v x : V} {r : List (Str × V)} : putF f v ((f, x) :: r) = (f, v) :: r := if_pos rfl
theorem putF_nil {f : Str} {v : V} : putF f v [] = [(f, v)] := rfl
theorem lkS {f g : Str} {x : V} {r : List (Str × V)} {u : Option V} (h : (f == g) = false) (k : r.lookup f = u) : ((g, x) :: r).lookup f = u := by
  rw [List.lookup, h]
  exact k
theorem lkZ {f : Str} {x : V} {r : List (Str × V)} : ((f, x) :: r).lookup f = some x := by
  rw [List.lookup, beq_self_eq_true f]
theorem lkN {f : Str} : ([] : List (Str × V)).lookup f = none := rfl
structure RTxt (K : PySem.W.Frag) (CR : Addr) : Prop where
  cl : Cls K CR
  a0 : NoAttr K CR "code"
  a1 : NoAttr K CR "offset"
abbrev rdL (a : Addr) (k : Nat) : List (Str × V) := [("code", .ref a), ("offset", .int (k : Nat))]
theorem lk_off {a : Addr} {k : Nat} : (rdL a k).lookup ("offset" : Str) = some (V.int (k : Nat)) := lkS (by decide) lkZ
theorem lk_code {a : Addr} {k : Nat} : (rdL a k).lookup ("code" : Str) = some (V.ref a) := lkZ
theorem lk_rd {f : Str} {a : Addr} {k : Nat} (h1 : (f == ("code" : Str)) = false) (h2 : (f == ("offset" : Str)) = false) : (rdL a k).lookup f = none := lkS h1 (lkS h2 lkN)
theorem put_off {a : Addr} {k j : Nat} : putF "offset" (.int (j : Nat)) (rdL a k) = rdL a j := by
  rw [putF_skip (by decide), putF_hit]
def RdAt (CR : Addr) (H : Hp) (x a : Addr) (k : Nat) : Prop := ∃ dx, H x = some (.ins CR dx (rdL a k))
def spRdInit (CR : Addr) : Sp := fun vs H Q _ => ∃ (x dx a : Addr), vs = [.ref x, .ref a] ∧ H x = some (.ins CR dx []) ∧ ∀ H', But x H H' → RdAt CR H' x a 0 → Q .non H'
def OffE (CE x : Addr) (E : XK) (H : Hp) (k : Nat) : Prop := ∀ H' d, But x H H' → H' d = none → E (.ref CE) (some d) (upd H' d (.xd [(("offset" : Str), .int (k : Nat))]))
def spTake (CR CE : Addr) : Sp := fun vs H Q E => ∃ (x a : Addr) (k : Nat) (ns : List Int) (lo hi : Int), vs = [.ref x, .int lo, .int hi] ∧ RdAt CR H x a k ∧ H a = some (.lst (ns.map V.int)) ∧ k ≤ ns.length ∧ ns.length ≤ 10000 ∧
  (∀ v, ns[k]? = some v → lo ≤ v → v ≤ hi → ∀ H', But x H H' → RdAt CR H' x a (k + 1) → Q (.int v) H') ∧ ((∀ v, ns[k]? = some v → ¬ (lo ≤ v ∧ v ≤ hi)) → OffE CE x E H k)
def spTakeNeed (CR CE : Addr) : Sp := fun vs H Q E => ∃ (x a : Addr) (k : Nat) (ns : List Int), vs = [.ref x] ∧ RdAt CR H x a k ∧ H a = some (.lst (ns.map V.int)) ∧ k ≤ ns.length ∧ ns.length ≤ 10000 ∧
  (∀ n j, needF ns k = .inr (n, j) → ∀ H', But x H H' → RdAt CR H' x a j → Q (.int n) H') ∧ (∀ e, needF ns k = .inl e → OffE CE x E H e)
def spTakeStep (CR CE : Addr) : Sp := fun vs H Q E => ∃ (x a : Addr) (k : Nat) (ns : List Int), vs = [.ref x] ∧ RdAt CR H x a k ∧ H a = some (.lst (ns.map V.int)) ∧ k ≤ ns.length ∧ ns.length ≤ 10000 ∧
  (∀ s j, stF ns k = .inr (s, j) → ∀ q H', But x H H' → RdAt CR H' x a j → H' q = some (.tup (stpV s)) → Q (.ref q) H') ∧ (∀ e, stF ns k = .inl e → OffE CE x E H e)
def spDecode (C CE : Addr) : Sp := fun vs H Q E => ∃ (a : Addr) (ns : List Int), vs = [.ref a] ∧ H a = some (.lst (ns.map V.int)) ∧ ns.length ≤ 10000 ∧
  (∀ ss, readF ns = .inr ss → ∀ p H', Same H H' → PlanAt C H' p ss → Q (.ref p) H') ∧ (∀ e, readF ns = .inl e → ∀ H' d, Same H H' → H' d = none → E (.ref CE) (some d) (upd H' d (.xd [(("offset" : Str), .int (e : Nat))])))
theorem drop_cons' {ns : List Int} {k : Nat} {v : Int} (h : ns[k]? = some v) : ns.drop k = v :: ns.drop (k + 1) := by
  obtain ⟨hk, e⟩ := List.getElem?_eq_some_iff.mp h
  rw [List.drop_eq_getElem_cons hk, e]
theorem gN_at {ns : List Int} {k : Nat} {v : Int} {f : Bool} {w acc : Int} (h : ns[k]? = some v) : gN f (ns.drop k) k w acc = if (0 ≤ v ∧ v ≤ 255) ∧ (v = 0 → f = true) then (if v < 128 then .inr (acc + v % 128 * w, k + 1) else gN false (ns.drop (k + 1)) (k + 1) (w * 128) (acc + v % 128 * w)) else .inl k := by
  rw [drop_cons' h]
  rfl
theorem gN_end {ns : List Int} {k : Nat} {f : Bool} {w acc : Int} (h : ns[k]? = none) : gN f (ns.drop k) k w acc = .inl k := by
  rw [List.drop_eq_nil_of_le (List.getElem?_eq_none_iff.mp h)]
  cases f <;> rfl
theorem needF_of {ns : List Int} {k : Nat} : (∀ e, gN true (ns.drop k) k 1 0 = .inl e → needF ns k = .inl e) ∧ ∀ n j, gN true (ns.drop k) k 1 0 = .inr (n, j) → needF ns k = if n ≤ 1000000000000000000 then .inr (n, j) else .inl k := by
  unfold needF
  exact ⟨fun e h => by rw [h], fun n j h => by rw [h]⟩
def offAt (H : Hp) (x : Addr) : Nat := match H x with
  | some (.ins _ _ [_, (_, .int j)]) => j.toNat
  | _ => 0
theorem off_at {CR : Addr} {H : Hp} {x a : Addr} {k : Nat} (h : RdAt CR H x a k) : offAt H x = k := by
  obtain ⟨dx, e⟩ := h
  unfold offAt
  rw [e]
  exact Int.toNat_natCast k
theorem same_made {H : Hp} {x dx C : Addr} (hx : H x = none) (hdx : H dx = none) : Same H (upd (upd H dx (.own x)) x (.ins C dx [])) := fun b o e => by
  rw [upd_ne (ne_of_none e hx), upd_ne (ne_of_none e hdx)]
  exact e
/-- a plan made -/
theorem mk_plan {C x dx : Addr} {H1 : Hp} {ws : List V} {ss : List Stp} {R : Hp → Prop} {E : XK} (hx : H1 x = none) (hdx : H1 dx = none) (gs : Steps H1 ws ss) (hl : ss.length ≤ 60) (ho : ∀ s ∈ ss, s.ok 1000000000000000000) (k : ∀ H', Same H1 H' → PlanAt C H' x ss → R H') :
    spInit C (.ref x :: ws) (upd (upd H1 dx (.own x)) x (.ins C dx [])) (fun v H2 => v = .non ∧ R H2) E := by
  have s1 := same_made (C := C) hx hdx
  refine ⟨x, dx, ws, ss, rfl, upd_same, gs.same s1, hl, ho, fun H' tp b ex et => ⟨rfl, ?_⟩⟩
  have s2 : Same H1 H' := fun b' o e => b _ _ (ne_of_none e hx) (s1 _ _ e)
  exact k _ s2 ⟨dx, tp, ws, ex, et, gs.same s2⟩
theorem cut_first {ws : List V} {k : Nat} (h : k ≤ ws.length) : cutV ws none (some (k : Int)) = ws.take k := by
  unfold cutV
  rw [HT.sIx_none, HT.sIx_nat, List.drop_zero, Nat.min_eq_left h, Nat.sub_zero]
theorem same_but {H H1 H2 : Hp} {x : Addr} (hx : H x = none) (s : Same H H1) (b : But x H1 H2) : Same H H2 := fun c o e => b _ _ (ne_of_none e hx) (s _ _ e)
section
variable {P : Program} {w : World} {K : PySem.W.Frag} {mg : Str → Option Value} {base : Heap} {C CR CE TU pS gS SW : Addr} {mc : Value}
abbrev s_CodeReader___init__ : Stmt := inClass (top 28) 0
abbrev n_CodeReader___init__ : List Str := ["self", "code"]
theorem sc_CodeReader___init__ : FnScope n_CodeReader___init__ ["self", "code"] (defScope s_CodeReader___init__) := ⟨rfl, rfl, rfl, by decide +kernel, rfl, by decide +kernel, by decide +kernel⟩
theorem ok_CodeReader___init__ {f : Addr} {fd : FuncData} (F : Fun K "__init__" "CodeReader.__init__" s_CodeReader___init__ f fd) (R : RTxt K CR) : FnOk P w K mg base CX0 1 f fd ["self", "code"] (spRdInit CR) := by
  refine F.ok sc_CodeReader___init__ (fun vs H Q E h => ?_) (fun cdv A outer s H vs Q E hr h => ?_)
  · obtain ⟨x, dx, a, rfl, _⟩ := h
    rfl
  · obtain ⟨x, dx, a, rfl, hx, k⟩ := h
    refine ⟨_, pss_cons (ps_fld (pv 0) (pv 1) rfl)
      (pss_one (ps_fld (pv 0) pe_int rfl)), ?_⟩
    refine ⟨_, rfl, _, rfl, x, CR, dx, [], rfl, hx, R.cl, R.a0, by decide, ?_⟩
    rw [putF_nil]
    refine ⟨_, rfl, x, CR, dx, _, rfl, upd_same, R.cl, R.a1, by show 1 < 1000; decide, ?_⟩
    rw [putF_skip (by decide), putF_nil]
    exact k _ (fun b o n z => by rw [upd_ne n, upd_ne n]; exact z) ⟨dx, upd_same⟩
abbrev s_CodeReader_take : Stmt := inClass (top 28) 1
abbrev n_CodeReader_take : List Str := ["self", "least", "most"]
theorem sc_CodeReader_take : FnScope n_CodeReader_take ["self", "least", "most"] (defScope s_CodeReader_take) := ⟨rfl, rfl, rfl, by decide +kernel, rfl, by decide +kernel, by decide +kernel⟩
theorem okx_CodeReader_take {f f_is_number fE : Addr} {fd : FuncData} (F : Fun K "take" "CodeReader.take" s_CodeReader_take f fd) (T : Txt K mg C TU pS gS mc) (D_is_number : Dn P w K mg base 1 "is_number" f_is_number spIsNum) (R : RTxt K CR) (XD : PySem.EoX.EiTxt P K mg "DecodeError" CE fE) : FnOk P w K mg base (L2.CX P w) 2 f fd ["self", "least", "most"] (spTake CR CE) := by
  refine F.okX sc_CodeReader_take (fun vs H Q E h => ?_) (fun cdv A outer s H vs Q E hr h => ?_)
  · obtain ⟨x, a, k, ns, lo, hi, rfl, _⟩ := h
    rfl
  · obtain ⟨x, a, k, ns, lo, hi, rfl, ⟨dx, ex⟩, ea, kl, nl, k1, k2⟩ := h
    refine ⟨_, pss_cons (ps_if (PW.pt (pw_or (pt_cmpR op_eq (pe_fld (pv 0) rfl) (pe_callB call_len_seq (by rfl) T.b.len PySem.boot_len (pa_cons (pe_fld (pv 0) rfl) pa_nil)) (nomark _)) (pw_or1 (pt_not (pt_val (pe_callR D_is_number.ok (hr.mono (by decide)) rfl D_is_number.at_ D_is_number.kp pass0 (pa_cons (pe_ix ix_list (pe_fld (pv 0) rfl) (pe_fld (pv 0) rfl) (fun _ _ => rfl)) (pa_cons (pv 1) (pa_cons (pv 2) pa_nil)))))))))
        (pss_one (ps_raise (W := fun cls d _ H => E cls d H) rfl (takes_of rfl rfl rfl rfl) (pmk_off (k := 1) XD (hr.mono (by decide)) (pe_fld (pv 0) rfl) rfl))) pss_nil)
      (pss_cons (ps_fldaug (pv 0) pe_int in_add)
      (pss_one (ps_ret (pe_ix ix_list (pe_fld (pv 0) rfl) (pe_op op_sub (pe_fld (pv 0) rfl) pe_int) (fun _ _ => rfl))))), ?_⟩
    have lk : (k : Nat) ≤ 10000 := by omega
    have bad : (∀ v, ns[k]? = some v → ¬ (lo ≤ v ∧ v ≤ hi)) → ∀ d, H d = none → E (.ref CE) (some d) (upd H d (.xd [(("offset" : Str), .int (k : Nat))])) := fun z d hd => k2 z H d (But.refl x H) hd
    have la := ints_len ns
    refine ⟨_, rfl, x, CR, dx, _, _, rfl, ex, R.cl, R.a1, lk_off, _, rfl, x, CR, dx, _, _, rfl, ex, R.cl, R.a0, lk_code, a, _, rfl, .inl (SqL.of ea), rfl, _, rfl, ?_⟩
    cases hv : ns[k]? with
    | none =>
      have e : ns.length ≤ k := List.getElem?_eq_none_iff.mp hv
      refine ifT (decide_eq_true (by rw [la, show k = ns.length by omega])) (iteT ⟨_, rfl, x, CR, dx, _, _, rfl, ex, R.cl, R.a1, lk_off, _, rfl, ⟨by omega, by omega⟩, bad fun v z => ?_⟩)
      rw [hv] at z
      cases z
    | some v =>
      have e : k < ns.length := (List.getElem?_eq_some_iff.mp hv).1
      have gv : atI (ns.map V.int) (k : Nat) = some (.int v) := at_of (j := k) rfl (by rw [List.getElem?_map, hv]; rfl)
      refine ifF (decide_eq_false (by rw [la]; intro z; injection z; omega)) ⟨_, rfl, x, CR, dx, _, _, rfl, ex, R.cl, R.a0, lk_code, _, rfl, x, CR, dx, _, _, rfl, ex, R.cl, R.a1, lk_off, a, _, _, _, rfl, rfl, SqL.of ea, gv, _, rfl, _, rfl, _, _, _, rfl, _, rfl, ?_⟩
      by_cases c : lo ≤ v ∧ v ≤ hi
      · refine ifF (by rw [decide_eq_true c]; rfl) ⟨_, rfl, x, CR, dx, _, _, rfl, ex, R.cl, R.a1, lk_off, _, _, rfl, rfl, dx, _, ex, by show 2 < 1000; decide, ?_⟩
        have ep : putF "offset" (.int ((k : Int) + 1)) (rdL a k) = rdL a (k + 1) := put_off (j := k + 1)
        dsimp only
        rw [ep]
        have nxa : a ≠ x := ne_of ea ex fun z => nomatch z
        have e2 := upd_same (H := H) (a := x) (o := .ins CR dx (rdL a (k + 1)))
        refine ⟨_, rfl, x, CR, dx, _, _, rfl, e2, R.cl, R.a0, lk_code, _, rfl, x, CR, dx, _, _, rfl, e2, R.cl, R.a1, lk_off, _, _, rfl, rfl, a, _, _, _, rfl, rfl, SqL.of (by rw [upd_ne nxa]; exact ea), at_of (j := k) (by omega) (by rw [List.getElem?_map, hv]; rfl), k1 v hv c.1 c.2 _ (fun b o n z => by rw [upd_ne n]; exact z) ⟨dx, e2⟩⟩
      · refine ifT (by rw [decide_eq_false c]; rfl) ⟨_, rfl, x, CR, dx, _, _, rfl, ex, R.cl, R.a1, lk_off, _, rfl, ⟨by omega, by omega⟩, bad fun u z => ?_⟩
        rw [hv] at z
        injection z with z
        rw [← z]
        exact c
abbrev s_CodeReader_take_need : Stmt := inClass (top 28) 3
abbrev n_CodeReader_take_need : List Str := ["self", "first", "group", "need", "factor"]
theorem sc_CodeReader_take_need : FnScope n_CodeReader_take_need ["self"] (defScope s_CodeReader_take_need) := ⟨rfl, rfl, rfl, by decide +kernel, rfl, by decide +kernel, by decide +kernel⟩
theorem okx_CodeReader_take_need {f fE fT : Addr} {fd : FuncData} (F : Fun K "take_need" "CodeReader.take_need" s_CodeReader_take_need f fd) (T : Txt K mg C TU pS gS mc) (g_MAX_NUMBER : ∃ u, mg "MAX_NUMBER" = some u ∧ RelV (.int 255) u) (g_GROUP_SIZE : ∃ u, mg "GROUP_SIZE" = some u ∧ RelV (.int 128) u) (R : RTxt K CR) (XD : PySem.EoX.EiTxt P K mg "DecodeError" CE fE) (MT : Meth K CR "take" fT) (GT : FnR P w K mg base (L2.CX P w) 2 fT (spTake CR CE)) : FnOk P w K mg base (L2.CX P w) 3 f fd ["self"] (spTakeNeed CR CE) := by
  refine F.okX sc_CodeReader_take_need (fun vs H Q E h => ?_) (fun cdv A outer s H vs Q E hr h => ?_)
  · obtain ⟨x, a, k, ns, rfl, _⟩ := h
    rfl
  · obtain ⟨x, a, k, ns, rfl, hr0, ea, kl, nl, k1, k2⟩ := h
    obtain ⟨u_MAX_NUMBER, m_MAX_NUMBER, r_MAX_NUMBER⟩ := g_MAX_NUMBER
    obtain ⟨u_GROUP_SIZE, m_GROUP_SIZE, r_GROUP_SIZE⟩ := g_GROUP_SIZE
    refine ⟨_, pss_cons (ps_set (i := 1) sc_CodeReader_take_need.nd rfl (.inl rfl) (pe_fld (pv 0) rfl))
      (pss_cons (ps_set (i := 2) sc_CodeReader_take_need.nd rfl (.inl rfl) (pe_methR (E := E) (pv 0) R.cl MT GT (hr.mono (by decide)) (passes_call (takes_of rfl rfl rfl rfl) fun _ _ _ _ h => h) (pa_cons pe_int (pa_cons (pe_glob rfl m_MAX_NUMBER r_MAX_NUMBER) pa_nil))))
      (pss_cons (ps_par (i := 3) (j := 4) rfl sc_CodeReader_take_need.nd rfl rfl (by decide) rfl rfl (pa_cons (pe_op op_mod (pv 2) (pe_glob rfl m_GROUP_SIZE r_GROUP_SIZE)) (pa_cons (pe_glob rfl m_GROUP_SIZE r_GROUP_SIZE) pa_nil)) (by rfl))
      (pss_cons (ps_while (passes_of rfl) (pt_cmpR op_ge (pv 2) (pe_glob rfl m_GROUP_SIZE r_GROUP_SIZE) (nomark _))
        (pss_cons (ps_set (i := 2) sc_CodeReader_take_need.nd rfl (.inl rfl) (pe_methR (E := E) (pv 0) R.cl MT GT (hr.mono (by decide)) (passes_call (takes_of rfl rfl rfl rfl) fun _ _ _ _ h => h) (pa_cons pe_int (pa_cons (pe_glob rfl m_MAX_NUMBER r_MAX_NUMBER) pa_nil))))
        (pss_cons (ps_aug (i := 3) sc_CodeReader_take_need.nd rfl (.inl rfl) (pe_op op_mul (pe_op op_mod (pv 2) (pe_glob rfl m_GROUP_SIZE r_GROUP_SIZE)) (pv 4)) ip_add)
        (pss_one (ps_aug (i := 4) sc_CodeReader_take_need.nd rfl (.inl rfl) (pe_glob rfl m_GROUP_SIZE r_GROUP_SIZE) ip_mul)))))
      (pss_cons (ps_if (pt_cmpR op_gt (pv 3) (ClX.pe_cval (pe_glob (v := .ref C) rfl T.gP rfl)) (nomark _))
        (pss_one (ps_raise (W := fun cls d _ H => E cls d H) rfl (takes_of rfl rfl rfl rfl) (pmk_off (k := 1) XD (hr.mono (by decide)) (pv 1) rfl))) pss_nil)
      (pss_one (ps_ret (pv 3))))))), ?_⟩
    obtain ⟨dx, ex⟩ := id hr0
    refine ⟨_, rfl, x, CR, dx, _, _, rfl, ex, R.cl, R.a1, lk_off, ?_⟩
    obtain ⟨u2, cv2⟩ := T.cc
    have nxa : a ≠ x := ne_of ea ex fun z => nomatch z
    obtain ⟨ni, nr⟩ := needF_of (ns := ns) (k := k)
    refine ⟨_, rfl, x, dx, _, rfl, ex, lk_rd (by decide) (by decide), x, a, k, ns, 0, 255, rfl, hr0, ea, kl, nl, fun v hv v0 v1 H1 b1 r1 => ?_, fun bad => k2 k (ni k ?_)⟩
    rotate_left
    · cases hv : ns[k]? with
      | none => exact gN_end hv
      | some v =>
        rw [gN_at hv, if_neg fun z => bad v hv z.1]
    have hk : k < ns.length := (List.getElem?_eq_some_iff.mp hv).1
    have R1 := gN_at (f := true) (w := 1) (acc := 0) hv
    rw [if_pos ⟨⟨v0, v1⟩, fun _ => rfl⟩] at R1
    refine ⟨_, rfl, _, _, rfl, rfl, by show (0 : Int) < 128; decide, _, _, rfl, ?_⟩
    refine while_by (fun σ H' => ∃ (g acc w : Int) (j : Nat), σ = [some (.ref x), some (.int (k : Nat)), some (.int g), some (.int acc), some (.int w)] ∧ But x H H' ∧ RdAt CR H' x a j ∧ H' a = some (.lst (ns.map V.int)) ∧ k < j ∧ j ≤ ns.length ∧ 0 ≤ g ∧ g ≤ 255 ∧
        gN true (ns.drop k) k 1 0 = if g < 128 then .inr (acc, j) else gN false (ns.drop j) j w acc) (fun _ H' => ns.length - offAt H' x)
      ⟨v, v % 128, 128, k + 1, rfl, b1, r1, b1 _ _ nxa ea, by omega, by omega, v0, v1, ?_⟩ ?_ (fun σ H Q Q' m ⟨v, e1, i, j, e3, e4, kk, e5, q⟩ => ⟨v, e1, i, j, e3, e4, kk, e5, m _ _ q⟩)
    · rw [R1, show (0 : Int) + v % 128 * 1 = v % 128 by omega]
      rfl
    rintro σ H2 ⟨g, acc, w, j, rfl, b2, r2, ea2, kj, jl, g0, g1, R2⟩
    refine ⟨_, rfl, _, _, rfl, rfl, _, rfl, ?_⟩
    by_cases c : (128 : Int) ≤ g
    · rw [if_neg (by omega)] at R2
      obtain ⟨dx2, ex2⟩ := id r2
      refine ifT (decide_eq_true c) ⟨_, rfl, x, dx2, _, rfl, ex2, lk_rd (by decide) (by decide), x, a, j, ns, 1, 255, rfl, r2, ea2, jl, nl, fun v' hv' v0' v1' H3 b3 r3 => ?_, fun bad => ?_⟩
      · have hj : j < ns.length := (List.getElem?_eq_some_iff.mp hv').1
        refine ⟨_, rfl, _, rfl, _, _, rfl, rfl, by show (0 : Int) < 128; decide, _, rfl, _, _, rfl, rfl, .inl ⟨by omega, by omega⟩, _, _, rfl, rfl, _, rfl, _, _, rfl, rfl, .inr ⟨by decide, by decide⟩, ⟨v', acc + v' % 128 * w, w * 128, j + 1, rfl, b2.trans b3, r3, b3 _ _ nxa ea2, by omega, by omega, by omega, v1', ?_⟩, ?_⟩
        · rw [R2, gN_at hv', if_pos ⟨⟨by omega, v1'⟩, fun z => by omega⟩]
        · rw [off_at r3, off_at r2]
          omega
      · have e := ni j (by
          rw [R2]
          cases hv' : ns[j]? with
          | none => exact gN_end hv'
          | some v' => rw [gN_at hv', if_neg fun z => bad v' hv' ⟨by have := z.2; have := z.1; by_cases q : v' = 0; (have := z.2 q; cases this); omega, z.1.2⟩])
        exact fun H' d b' hd => k2 j e H' d (b2.trans b') hd
    · rw [if_pos (by omega)] at R2
      have e := nr acc j R2
      refine ifF (decide_eq_false c) ⟨_, rfl, C, _, _, _, rfl, T.rd, cv2, _, _, rfl, rfl, _, rfl, ?_⟩
      by_cases d : (1000000000000000000 : Int) < acc
      · rw [if_neg (by omega)] at e
        exact ifT (decide_eq_true d) ⟨_, rfl, _, rfl, ⟨by omega, by omega⟩, fun q hq => k2 k e H2 q b2 hq⟩
      · rw [if_pos (by omega)] at e
        exact ifF (decide_eq_false d) ⟨_, rfl, k1 acc j e H2 b2 r2⟩
abbrev s_CodeReader_take_step : Stmt := inClass (top 28) 2
abbrev n_CodeReader_take_step : List Str := ["self", "word"]
theorem sc_CodeReader_take_step : FnScope n_CodeReader_take_step ["self"] (defScope s_CodeReader_take_step) := ⟨rfl, rfl, rfl, by decide +kernel, rfl, by decide +kernel, by decide +kernel⟩
theorem okx_CodeReader_take_step {f fT fN : Addr} {fd : FuncData} (F : Fun K "take_step" "CodeReader.take_step" s_CodeReader_take_step f fd) (T : Txt K mg C TU pS gS mc) (R : RTxt K CR) (MT : Meth K CR "take" fT) (GT : FnR P w K mg base (L2.CX P w) 2 fT (spTake CR CE)) (MN : Meth K CR "take_need" fN) (GN : FnR P w K mg base (L2.CX P w) 3 fN (spTakeNeed CR CE)) (gSW : mg "STEP_WORDS" = some (.ref SW)) (sSW : ∀ H, SqT K H SW [.str "red", .str "blue", .str "turn"]) : FnOk P w K mg base (L2.CX P w) 4 f fd ["self"] (spTakeStep CR CE) := by
  refine F.okX sc_CodeReader_take_step (fun vs H Q E h => ?_) (fun cdv A outer s H vs Q E hr h => ?_)
  · obtain ⟨x, a, k, ns, rfl, _⟩ := h
    rfl
  · obtain ⟨x, a, k, ns, rfl, hr0, ea, kl, nl, k1, k2⟩ := h
    refine ⟨_, pss_cons (ps_set (i := 1) sc_CodeReader_take_step.nd rfl (.inl rfl) (pe_ix ix_tup (pe_glob (v := .ref SW) rfl gSW rfl) (pe_methR (E := E) (pv 0) R.cl MT GT (hr.mono (by decide)) (passes_call (takes_of rfl rfl rfl rfl) fun _ _ _ _ h => h) (pa_cons pe_int (pa_cons (pe_op op_sub (pe_callB call_len (by rfl) T.b.len PySem.boot_len (pa_cons (pe_glob (v := .ref SW) rfl gSW rfl) pa_nil)) pe_int) pa_nil))) (fun _ _ => rfl)))
      (pss_one (ps_ret (pe_ifExp (pt_cmpR op_eq (pv 1) pe_str (nomark _)) (pe_tup (pa_cons (pv 1) pa_nil)) (pe_tup (pa_cons (pv 1) (pa_cons (pe_methR0 (E := E) (pv 0) R.cl MN GN (hr.mono (by decide)) (passes_call (takes_of rfl rfl rfl rfl) fun _ _ _ _ h => h)) pa_nil)))))), ?_⟩
    obtain ⟨dx, ex⟩ := id hr0
    have nxa : a ≠ x := ne_of ea ex fun z => nomatch z
    have eS : ∀ e, stF ns k = .inl e → OffE CE x E H e := k2
    refine ⟨_, rfl, x, dx, _, rfl, ex, lk_rd (by decide) (by decide), _, 3, rfl, .inr ⟨_, sSW _, rfl⟩, _, _, rfl, rfl, x, a, k, ns, 0, 2, rfl, hr0, ea, kl, nl, fun v hv v0 v1 H1 b1 r1 => ?_, fun bad => k2 k ?_⟩
    rotate_left
    · unfold stF
      cases hv : ns[k]? with
      | none => rfl
      | some v =>
        have := bad v hv
        dsimp only; rw [if_neg (by omega), if_neg (by omega)]
    have hk : k < ns.length := (List.getElem?_eq_some_iff.mp hv).1
    obtain ⟨dx1, ex1⟩ := id r1
    have ea1 := b1 _ _ nxa ea
    have eR : stF ns k = if v = 2 then .inr (.turn, k + 1) else if v = 0 ∨ v = 1 then (match needF ns (k + 1) with
        | .inl e => .inl e
        | .inr (n, j) => .inr (.meet (decide (v = 0)) n, j)) else .inl k := by
      unfold stF
      rw [hv] <;> rfl
    by_cases c : v = 2
    · subst c
      refine ⟨SW, _, _, _, rfl, rfl, sSW _, at_of (j := 2) rfl rfl, _, rfl, rfl, _, rfl, ?_⟩
      refine ifT (by decide +kernel) ⟨_, rfl, by show 1 ≤ sizeLine; decide, fun q hq => ?_⟩
      have nx1 : ∀ b o, H1 b = some o → upd H1 q (.tup [.str "turn"]) b = some o := same_upd hq
      exact k1 .turn (k + 1) (by rw [eR]; rfl) q _ (fun b o n z => nx1 _ _ (b1 _ _ n z)) ⟨dx1, nx1 _ _ ex1⟩ upd_same
    · have c01 : v = 0 ∨ v = 1 := by omega
      rw [if_neg c, if_pos c01] at eR
      have ew : atI ([.str "red", .str "blue", .str "turn"] : List V) v = some (.str (roomS (decide (v = 0)))) := by
        rcases c01 with rfl | rfl
        · exact at_of (j := 0) rfl rfl
        · exact at_of (j := 1) rfl rfl
      have ewt : decide (V.str (roomS (decide (v = 0))) = V.str "turn") = false := by
        cases decide (v = 0) <;> decide +kernel
      refine ⟨SW, _, _, _, rfl, rfl, sSW _, ew, _, rfl, rfl, _, rfl, ?_⟩
      refine ifF ewt ⟨_, rfl, _, rfl, x, dx1, _, rfl, ex1, lk_rd (by decide) (by decide), x, a, k + 1, ns, rfl, r1, ea1, hk, nl, fun n j e H2 b2 r2 => ⟨by show 2 ≤ sizeLine; decide, fun q hq => ?_⟩, fun e he => ?_⟩
      · have nx1 : ∀ b o, H2 b = some o → upd H2 q (.tup [.str (roomS (decide (v = 0))), .int n]) b = some o := same_upd hq
        obtain ⟨dx2, ex2⟩ := r2
        exact k1 (.meet (decide (v = 0)) n) j (by rw [eR, e]) q _ (fun b o nn z => nx1 _ _ (b2 _ _ nn (b1 _ _ nn z))) ⟨dx2, nx1 _ _ ex2⟩ upd_same
      · exact fun H' d b' hd => k2 e (by rw [eR, he]) H' d (b1.trans b') hd
abbrev s_decode_plan : Stmt := top 27
abbrev n_decode_plan : List Str := ["code", "reader", "many", "steps", "at", "checksum"]
theorem sc_decode_plan : FnScope n_decode_plan ["code"] (defScope s_decode_plan) := ⟨rfl, rfl, rfl, by decide +kernel, rfl, by decide +kernel, by decide +kernel⟩
theorem okx_decode_plan {f fI f_checksum_of fE fT fS fR : Addr} {fd : FuncData} (F : Fun K "decode_plan" "decode_plan" s_decode_plan f fd) (T : Txt K mg C TU pS gS mc) (M : Mk K C fI) (GI : FnR P w K mg base CX0 3 fI (spInit C)) (g_FIRST_NUMBER : ∃ u, mg "FIRST_NUMBER" = some u ∧ RelV (.int 99) u) (D_checksum_of : Dn P w K mg base 1 "checksum_of" f_checksum_of (spCheck K)) (R : RTxt K CR) (XD : PySem.EoX.EiTxt P K mg "DecodeError" CE fE) (MR : Mk K CR fR) (GRI : FnR P w K mg base CX0 1 fR (spRdInit CR)) (gCR : mg "CodeReader" = some (.ref CR)) (MT : Meth K CR "take" fT) (GT : FnR P w K mg base (L2.CX P w) 2 fT (spTake CR CE)) (MS : Meth K CR "take_step" fS) (GS : FnR P w K mg base (L2.CX P w) 4 fS (spTakeStep CR CE)) : FnOk P w K mg base (L2.CX P w) 5 f fd ["code"] (spDecode C CE) := by
  refine F.okX sc_decode_plan (fun vs H Q E h => ?_) (fun cdv A outer s H vs Q E hr h => ?_)
  · obtain ⟨a, ns, rfl, _⟩ := h
    rfl
  · obtain ⟨a, ns, rfl, ea, nl, k1, k2⟩ := h
    obtain ⟨u_FIRST_NUMBER, m_FIRST_NUMBER, r_FIRST_NUMBER⟩ := g_FIRST_NUMBER
    refine ⟨_, pss_cons (ps_set (i := 1) sc_decode_plan.nd rfl (.inl rfl) (StX.pe_makeR MR GRI (hr.mono (by decide)) rfl gCR pass0 (pa_cons (pv 0) pa_nil)))
      (pss_cons (ps_expr (pe_methR (E := E) (pv 1) R.cl MT GT (hr.mono (by decide)) (passes_call (takes_of rfl rfl rfl rfl) fun _ _ _ _ h => h) (pa_cons (pe_glob rfl m_FIRST_NUMBER r_FIRST_NUMBER) (pa_cons (pe_glob rfl m_FIRST_NUMBER r_FIRST_NUMBER) pa_nil))))
      (pss_cons (ps_set (i := 2) sc_decode_plan.nd rfl (.inl rfl) (pe_methR (E := E) (pv 1) R.cl MT GT (hr.mono (by decide)) (passes_call (takes_of rfl rfl rfl rfl) fun _ _ _ _ h => h) (pa_cons pe_int (pa_cons (ClX.pe_cval (pe_glob (v := .ref C) rfl T.gP rfl)) pa_nil))))
      (pss_cons (ps_set (i := 3) sc_decode_plan.nd rfl (.inl rfl) (pe_lst pa_nil))
      (pss_cons (ps_for (passes_of rfl) rfl (pi_range1 rfl T.b.range (pa_cons (pv 2) pa_nil)) (pg_name (i := 4) sc_decode_plan.nd rfl (.inl rfl))
        (pss_one (ps_expr (pe_bm PySem.F.plainAttrs_list PySem.F.slot_list_append PySem.F.type_list_append mt_append (pv 3) (pa_cons (pe_methR0 (E := E) (pv 1) R.cl MS GS (hr.mono (by decide)) (passes_call (takes_of rfl rfl rfl rfl) fun _ _ _ _ h => h)) pa_nil)))))
      (pss_cons (ps_set (i := 5) sc_decode_plan.nd rfl (.inl rfl) (pe_callR D_checksum_of.ok (hr.mono (by decide)) rfl D_checksum_of.at_ D_checksum_of.kp pass0 (pa_cons (pe_slice sl_list (pv 0) po_none (po_some (pe_fld (pv 1) rfl))) pa_nil)))
      (pss_cons (ps_expr (pe_methR (E := E) (pv 1) R.cl MT GT (hr.mono (by decide)) (passes_call (takes_of rfl rfl rfl rfl) fun _ _ _ _ h => h) (pa_cons (pv 5) (pa_cons (pv 5) pa_nil))))
      (pss_cons (ps_if (pt_cmpR op_lt (pe_fld (pv 1) rfl) (pe_callB call_len_seq (by rfl) T.b.len PySem.boot_len (pa_cons (pv 0) pa_nil)) (nomark _))
        (pss_one (ps_raise (W := fun cls d _ H => E cls d H) rfl (takes_of rfl rfl rfl rfl) (pmk_off (k := 1) XD (hr.mono (by decide)) (pe_fld (pv 1) rfl) rfl))) pss_nil)
      (pss_one (ps_ret (pe_makeS M GI (hr.mono (by decide)) rfl T.gP pass0 (pv 3))))))))))), ?_⟩
    obtain ⟨u1, cv1⟩ := T.cs
    refine ⟨_, rfl, fun x dx0 hx hdx _ => ⟨x, dx0, a, rfl, upd_same, fun H1 b1 r1 => ⟨rfl, ?_⟩⟩⟩
    have s1 : Same H H1 := same_but hx (same_made hx hdx) b1
    have fail : ∀ {e : Nat} {H1 : Hp}, readF ns = .inl e → Same H H1 → OffE CE x E H1 e := fun {e H1} h s H' d b hd => k2 e h H' d (same_but hx s b) hd
    clear b1
    obtain ⟨dx, ex⟩ := id r1
    refine ⟨_, rfl, x, dx, _, rfl, ex, lk_rd (by decide) (by decide), x, a, 0, ns, 99, 99, rfl, r1, s1 _ _ ea, Nat.zero_le _, nl, fun v0 hv0 p0 p1 H2 b2 r2 => ?_, fun bad => fail ?_ s1⟩
    rotate_left
    · unfold readF
      cases hv : ns[0]? with
      | none => rfl
      | some v =>
        have := bad v hv
        show (if v = 99 then _ else _) = _
        rw [if_neg (by omega)]
    have h0 : v0 = 99 := by omega
    subst h0
    have s2 := same_but hx s1 b2
    have E0' : readF ns = (match (ns[1]? : Option Int) with
      | none => .inl 1
      | some m => if 0 ≤ m ∧ m ≤ 60 then (match rdSteps ns m.toNat 2 [] with
        | .inl e => .inl e
        | .inr (ss, k) => match (ns[k]? : Option Int) with
          | none => .inl k
          | some v => if v = sumF (ns.take k) then (if k + 1 < ns.length then .inl (k + 1) else .inr ss) else .inl k) else .inl 1) := by
      unfold readF
      rw [hv0]
      rfl
    clear b2 s1 ex r1 p0 p1
    have l1 : 1 ≤ ns.length := (List.getElem?_eq_some_iff.mp hv0).1
    obtain ⟨dx, ex⟩ := id r2
    refine ⟨_, rfl, x, dx, _, rfl, ex, lk_rd (by decide) (by decide), C, _, _, _, rfl, T.rd, cv1, x, a, 1, ns, 0, 60, rfl, r2, s2 _ _ ea, l1, nl, fun m hm m0 m1 H3 b3 r3 => ?_, fun bad => fail ?_ s2⟩
    rotate_left
    · rw [E0']
      cases hv : ns[1]? with
      | none => rfl
      | some v =>
        have := bad v hv
        show (if 0 ≤ v ∧ v ≤ 60 then _ else _) = _
        rw [if_neg this]
    have s3 := same_but hx s2 b3
    have E1 : readF ns = (match rdSteps ns m.toNat 2 [] with
        | .inl e => .inl e
        | .inr (ss, k) => match (ns[k]? : Option Int) with
          | none => .inl k
          | some v => if v = sumF (ns.take k) then (if k + 1 < ns.length then .inl (k + 1) else .inr ss) else .inl k) := by
      rw [E0', hm]
      show (if 0 ≤ m ∧ m ≤ 60 then _ else _) = _
      rw [if_pos ⟨m0, m1⟩]
    have l2 : 2 ≤ ns.length := (List.getElem?_eq_some_iff.mp hm).1
    clear b3 s2 ex r2 E0'
    refine ⟨by show 0 ≤ sizeLine; decide, fun l hl => ?_⟩
    have hl0 : H l = none := by
      cases e : H l with
      | none => rfl
      | some o =>
        rw [s3 _ _ e] at hl
        cases hl
    have z3 := same_upd (o := .lst []) hl
    have nlx : l ≠ x := let ⟨_, e⟩ := r3; (ne_of_none e hl).symm
    refine ⟨_, rfl, m, rfl, by omega, by omega, for_range (lo := 0) (n := m.toNat) (fun i σ H' => ∃ (at_ : Option V) (ws : List V) (acc : List Stp) (j : Nat), σ = [some (.ref a), some (.ref x), some (.int m), some (.ref l), at_, none] ∧ Same H H' ∧ RdAt CR H' x a j ∧ H' l = some (.lst ws) ∧ Steps H' ws acc ∧ acc.length = i ∧ (∀ s ∈ acc, s.ok 1000000000000000000) ∧ j ≤ ns.length ∧
        rdSteps ns m.toNat 2 [] = rdSteps ns (m.toNat - i) j acc)
      ⟨none, [], [], 2, rfl, s3.trans z3, let ⟨d, e⟩ := r3; ⟨d, z3 _ _ e⟩, upd_same, .nil, rfl, fun s hs => (nomatch hs), l2, rfl⟩ ?_ ?_⟩
    · rintro i σ H4 hi ⟨at_, ws, acc, j, rfl, s4, r4, el, g4, ln, ok4, jl, R4⟩
      have lw : ws.length = acc.length := g4.length
      obtain ⟨dx, ex⟩ := id r4
      obtain ⟨q1, q2⟩ := stF_in (ns := ns) (k := j) jl
      have R5 : rdSteps ns m.toNat 2 [] = (match stF ns j with
        | .inl e => .inl e
        | .inr (s, j') => rdSteps ns (m.toNat - (i + 1)) j' (acc ++ [s])) := by
        rw [R4, show m.toNat - i = m.toNat - (i + 1) + 1 by omega]
        rfl
      refine ⟨_, rfl, .inl ⟨rfl, _, SqL.of el⟩, _, rfl, x, dx, _, rfl, ex, lk_rd (by decide) (by decide), x, a, j, ns, rfl, r4, s4 _ _ ea, jl, nl, fun s j' e q H5 b5 r5 eq => ⟨l, ws, _, rfl, rfl, b5 _ _ nlx el, small_lt (by omega), ?_⟩, fun e he => fail ?_ s4⟩
      · have s5 := same_but hx s4 b5
        have k5 : ∀ t us, H4 t = some (.tup us) → upd H5 l (.lst (ws ++ [.ref q])) t = some (.tup us) := fun t us z => by
          have z5 := b5 _ _ (ne_of z ex fun y => nomatch y) z
          rw [upd_ne (ne_of z5 (b5 _ _ nlx el) fun y => nomatch y)]
          exact z5
        obtain ⟨okS, _, jl'⟩ := q2 s j' e
        refine ⟨_, _, acc ++ [s], j', rfl, same_new hl0 s5, let ⟨d, z⟩ := r5; ⟨d, by rw [upd_ne nlx.symm]; exact z⟩, upd_same, (g4.mono k5).append (.cons ⟨q, rfl, by rw [upd_ne (ne_of eq (b5 _ _ nlx el) fun y => nomatch y)]; exact eq⟩ .nil), by rw [List.length_append, ln]; rfl, fun t ht => ?_, jl', by rw [R5, e]⟩
        rcases List.mem_append.mp ht with z | z
        · exact ok4 t z
        · rw [show t = s from List.mem_singleton.mp z]
          exact okS
      · rw [E1, R5, he]
    · rintro σ H4 ⟨at_, ws, acc, j, rfl, s4, r4, el, g4, ln, ok4, jl, R4⟩
      rw [Nat.sub_self] at R4
      have R5 : rdSteps ns m.toNat 2 [] = .inr (acc, j) := R4
      rw [R5] at E1
      dsimp only at E1
      obtain ⟨dx, ex⟩ := id r4
      refine ⟨_, rfl, _, rfl, x, CR, dx, _, _, rfl, ex, R.cl, R.a1, lk_off, _, rfl, a, _, rfl, SqL.of (s4 _ _ ea), fun p hp => ?_⟩
      rw [cut_first (by rw [ints_len]; exact jl), ← List.map_take]
      have s5 := same_upd (o := .lst ((ns.take j).map V.int)) hp
      refine ⟨p, ns.take j, rfl, SqL.of upd_same, ?_⟩
      generalize upd H4 p (.lst ((ns.take j).map V.int)) = H5 at *
      have r5 : RdAt CR H5 x a j := ⟨dx, s5 _ _ ex⟩
      have sH5 := s4.trans s5
      refine ⟨_, rfl, x, dx, _, rfl, s5 _ _ ex, lk_rd (by decide) (by decide), _, rfl, _, rfl, x, a, j, ns, sumF (ns.take j), sumF (ns.take j), rfl, r5, sH5 _ _ ea, jl, nl, fun v hv p0 p1 H6 b6 r6 => ?_, fun bad => fail ?_ sH5⟩
      rotate_left
      · rw [E1]
        cases hv : ns[j]? with
        | none => rfl
        | some v =>
          have := bad v hv
          show (if v = sumF (ns.take j) then _ else _) = _
          rw [if_neg (by omega)]
      have hv2 : v = sumF (ns.take j) := by omega
      have E2 : readF ns = if j + 1 < ns.length then .inl (j + 1) else .inr acc := by
        rw [E1, hv]
        show (if v = sumF (ns.take j) then _ else _) = _
        rw [if_pos hv2]
      have s6 := same_but hx sH5 b6
      obtain ⟨dx6, ex6⟩ := id r6
      refine ⟨_, rfl, x, CR, dx6, _, _, rfl, ex6, R.cl, R.a1, lk_off, _, rfl, a, _, rfl, .inl (SqL.of (s6 _ _ ea)), _, _, rfl, rfl, _, rfl, ?_⟩
      by_cases c : j + 1 < ns.length
      · rw [if_pos c] at E2
        exact ifT (decide_eq_true (by rw [ints_len]; omega)) ⟨_, rfl, x, CR, dx6, _, _, rfl, ex6, R.cl, R.a1, lk_off, _, rfl, ⟨by omega, by omega⟩, fun d hd => k2 (j + 1) E2 H6 d s6 hd⟩
      · rw [if_neg c] at E2
        have g6 : Steps H6 ws acc := g4.mono fun t us z => b6 _ _ (ne_of z ex fun y => nomatch y) (s5 _ _ z)
        refine ifF (decide_eq_false (by rw [ints_len]; omega)) ⟨_, rfl, l, ws, rfl, .inr (SqL.of (b6 _ _ nlx (s5 _ _ el))), fun q dq hq hdq _ => mk_plan hq hdq g6 (by omega) ok4 fun H7 s7 pl => k1 acc E2 q H7 (s6.trans s7) pl⟩
end
end Cc

/-! Codes read: the law's way. -/
namespace Cc
open PySem PySem.Spec PyProof.Rows L2
def NeedOut (H : Hp) (q : Addr) (ns : List Int) (k : Nat) : Prop := (∃ n j, needF ns k = .inr (n, j) ∧ H q = some (.tup [.int n, .int (j : Nat)])) ∨ ∃ e, needF ns k = .inl e ∧ H q = some (.tup [.str "code", .int (e : Nat)])
def spLNeed : Sp := fun vs H Q _ => ∃ (a : Addr) (ns : List Int) (k : Nat), vs = [.ref a, .int (k : Nat)] ∧ H a = some (.lst (ns.map V.int)) ∧ k ≤ ns.length ∧ ns.length ≤ 10000 ∧ ∀ q H', Same H H' → NeedOut H' q ns k → Q (.ref q) H'
def ReadOut (H : Hp) (q : Addr) (ns : List Int) : Prop := (∃ e, readF ns = .inl e ∧ H q = some (.tup [.str "code", .int (e : Nat)])) ∨ ∃ ss t ws, readF ns = .inr ss ∧ H q = some (.tup [.str "value", .ref t]) ∧ H t = some (.tup ws) ∧ Steps H ws ss
def spLRead : Sp := fun vs H Q _ => ∃ (a : Addr) (ns : List Int), vs = [.ref a] ∧ H a = some (.lst (ns.map V.int)) ∧ ns.length ≤ 10000 ∧ ∀ q H', Same H H' → ReadOut H' q ns → Q (.ref q) H'
section
variable {P : Program} {w : World} {K : PySem.W.Frag} {mg : Str → Option Value} {base : Heap}
abbrev s__law_need : Stmt := top 39
abbrev n__law_need : List Str := ["_law_code_here", "_law_at", "_law_number", "_law_weight", "_law_begin"]
theorem sc__law_need : FnScope n__law_need ["_law_code_here", "_law_at"] (defScope s__law_need) := ⟨rfl, rfl, rfl, by decide +kernel, rfl, by decide +kernel, by decide +kernel⟩
theorem ok__law_need {f : Addr} {fd : FuncData} (F : Fun K "_law_need" "_law_need" s__law_need f fd) (B : Bt mg) : FnOk P w K mg base CX0 1 f fd ["_law_code_here", "_law_at"] spLNeed := by
  refine F.ok sc__law_need (fun vs H Q E h => ?_) (fun cdv A outer s H vs Q E hr h => ?_)
  · obtain ⟨a, ns, k, rfl, _⟩ := h
    rfl
  · obtain ⟨a, ns, k, rfl, ea, kl, nl, kk⟩ := h
    refine ⟨_, pss_cons (ps_par3 (i := 2) (j := 3) (l := 4) rfl sc__law_need.nd rfl rfl rfl (by decide) (by decide) (by decide) rfl rfl rfl (pa_cons pe_int (pa_cons pe_int (pa_cons (pv 1) pa_nil))) (by rfl))
      (pss_cons (ps_while PassesOwn.never (pt_cmpR op_lt (pv 1) (pe_callB call_len_seq (by rfl) B.len PySem.boot_len (pa_cons (pv 0) pa_nil)) (nomark _))
        (C8.pss_cut (ps_if (PW.pt (pw_or (pt_not (pt_chain op_le op_le pe_int (pe_ix ix_list (pv 0) (pv 1) (fun _ _ => rfl)) pe_int)) (pw_or1 (PW.pt (pw_and (pt_cmpR op_eq (pe_ix ix_list (pv 0) (pv 1) (fun _ _ => rfl)) pe_int (nomark _)) (pw_and1 (pt_cmpR op_gt (pv 1) (pv 4) (nomark _))))))))
          (pss_one (ps_ret (pe_tup (pa_cons pe_str (pa_cons (pv 1) pa_nil))))) pss_nil)
        (pss_cons (ps_set (i := 2) sc__law_need.nd rfl (.inl rfl) (pe_op op_add (pv 2) (pe_op op_mul (pe_op op_mod (pe_ix ix_list (pv 0) (pv 1) (fun _ _ => rfl)) pe_int) (pv 3))))
        (pss_cons (ps_set (i := 3) sc__law_need.nd rfl (.inl rfl) (pe_op op_mul (pv 3) pe_int))
        (pss_cons (ps_set (i := 1) sc__law_need.nd rfl (.inl rfl) (pe_op op_add (pv 1) pe_int))
        (pss_one (ps_if (pt_cmpR op_lt (pe_ix ix_list (pv 0) (pe_op op_sub (pv 1) pe_int) (fun _ _ => rfl)) pe_int (nomark _))
          (pss_one (ps_ret (pe_ifExp (pt_cmpR op_le (pv 2) (pe_op op_pow pe_int pe_int) (nomark _)) (pe_tup (pa_cons (pv 2) (pa_cons (pv 1) pa_nil))) (pe_tup (pa_cons pe_str (pa_cons (pv 4) pa_nil)))))) pss_nil)))))))
      (pss_one (ps_ret (pe_tup (pa_cons pe_str (pa_cons (pe_callB call_len_seq (by rfl) B.len PySem.boot_len (pa_cons (pv 0) pa_nil)) pa_nil)))))), ?_⟩
    obtain ⟨ni, nr⟩ := needF_of (ns := ns) (k := k)
    have e18 : (10 : Int) ^ (18 : Int).toNat = 1000000000000000000 := by decide
    have la := ints_len ns
    refine ⟨_, rfl, _, _, _, rfl, ?_⟩
    refine while_by (fun σ H' => ∃ (j : Nat) (acc w : Int), σ = [some (.ref a), some (.int (j : Nat)), some (.int acc), some (.int w), some (.int (k : Nat))] ∧ H' = H ∧ k ≤ j ∧ j ≤ ns.length ∧ gN true (ns.drop k) k 1 0 = gN (decide (j = k)) (ns.drop j) j w acc) (fun σ _ => ns.length - (iAt σ 1).toNat)
      ⟨k, 0, 1, rfl, rfl, Nat.le_refl k, kl, by rw [decide_eq_true rfl]⟩ ?_ (fun σ H Q Q' m ⟨v, e1, u, e2, p, ys, e3, e4, i, j, e5, e6, kk, e7, q⟩ => ⟨v, e1, u, e2, p, ys, e3, e4, i, j, e5, e6, kk, e7, m _ _ q⟩)
    rintro σ H1 ⟨j, acc, w, rfl, rfl, kj, jl, R1⟩
    refine ⟨_, rfl, _, rfl, a, _, rfl, .inl (SqL.of ea), _, _, rfl, rfl, _, rfl, ?_⟩
    have out : ∀ e, needF ns k = .inl e → ([V.str "code", V.int (e : Nat)]).length ≤ sizeLine ∧ ∀ q, H1 q = none → Q (.ref q) (upd H1 q (.tup [.str "code", .int (e : Nat)])) := fun e he => ⟨by show 2 ≤ sizeLine; decide, fun q hq => kk q _ (same_upd hq) (.inr ⟨e, he, upd_same⟩)⟩
    cases hv : ns[j]? with
    | none =>
      have e : ns.length ≤ j := List.getElem?_eq_none_iff.mp hv
      refine ifF (decide_eq_false (by rw [la]; omega)) ⟨_, rfl, a, _, rfl, .inl (SqL.of ea), ?_⟩
      rw [la]
      exact out ns.length (by rw [ni j (by rw [R1]; exact gN_end hv), show j = ns.length by omega])
    | some v =>
      have jl2 : j < ns.length := (List.getElem?_eq_some_iff.mp hv).1
      have gv : atI (ns.map V.int) (j : Nat) = some (.int v) := at_of (j := j) rfl (by rw [List.getElem?_map, hv]; rfl)
      have R2 := gN_at (f := decide (j = k)) (w := w) (acc := acc) hv
      refine ifT (decide_eq_true (by rw [la]; omega)) ⟨fun σ' H' => σ' = [some (.ref a), some (.int (j : Nat)), some (.int acc), some (.int w), some (.int (k : Nat))] ∧ H' = H1 ∧ (0 ≤ v ∧ v ≤ 255) ∧ (v = 0 → decide (j = k) = true), ?_, ?_⟩
      · have bad : ¬ ((0 ≤ v ∧ v ≤ 255) ∧ (v = 0 → decide (j = k) = true)) → needF ns k = .inl j := fun c => ni j (by rw [R1, R2, if_neg c])
        refine ⟨_, rfl, _, rfl, a, _, _, _, rfl, rfl, SqL.of ea, gv, _, _, rfl, rfl, _, rfl, ?_⟩
        by_cases c0 : 0 ≤ v
        · refine ifT (decide_eq_true c0) ⟨_, _, rfl, rfl, _, rfl, ?_⟩
          by_cases c1 : v ≤ 255
          · refine ifF (by rw [decide_eq_true c1]; rfl) ⟨_, rfl, _, rfl, a, _, _, _, rfl, rfl, SqL.of ea, gv, rfl, _, rfl, ?_⟩
            by_cases c2 : v = 0
            · refine ifT (decide_eq_true (by rw [c2])) ⟨_, rfl, _, rfl, _, _, rfl, rfl, _, rfl, ?_⟩
              by_cases c3 : k < j
              · exact ifT (decide_eq_true (by omega)) ⟨_, rfl, out j (bad fun z => by have := of_decide_eq_true (z.2 c2); omega)⟩
              · exact ifF (decide_eq_false (by omega)) ⟨rfl, rfl, ⟨c0, c1⟩, fun _ => decide_eq_true (by omega)⟩
            · exact ifF (decide_eq_false (by intro z; injection z; exact c2 (by assumption))) ⟨rfl, rfl, ⟨c0, c1⟩, fun z => absurd z c2⟩
          · exact ifT (by rw [decide_eq_false c1]; rfl) ⟨_, rfl, out j (bad fun z => c1 z.1.2)⟩
        · exact ifF (decide_eq_false c0) ⟨_, rfl, iteT ⟨_, rfl, out j (bad fun z => c0 z.1.1)⟩⟩
      rintro σ H2 ⟨rfl, rfl, c⟩
      rw [if_pos c] at R2
      have hm0 : 0 ≤ v % 128 := by omega
      have hm1 : v % 128 < 128 := by omega
      refine ⟨_, rfl, _, rfl, _, rfl, a, _, _, _, rfl, rfl, SqL.of ea, gv, _, _, rfl, rfl, by show (0 : Int) < 128; decide, _, rfl, _, _, rfl, rfl, .inl ⟨by omega, by omega⟩, _, _, rfl, rfl, ?_⟩
      refine ⟨_, rfl, _, _, rfl, rfl, .inr ⟨by decide, by decide⟩, _, rfl, _, _, rfl, rfl, ?_⟩
      refine ⟨_, rfl, _, rfl, _, _, rfl, rfl, a, _, _, _, rfl, rfl, SqL.of ea, at_of (j := j) (by omega) (by rw [List.getElem?_map, hv]; rfl), _, _, rfl, rfl, _, rfl, ?_⟩
      by_cases d : v < 128
      · rw [if_pos d] at R2
        have e := nr _ _ (R1.trans R2)
        refine ifT (decide_eq_true d) ⟨_, rfl, _, _, rfl, rfl, ⟨by decide, by decide, by decide⟩, _, _, rfl, rfl, _, rfl, ?_⟩
        by_cases f : acc + v % 128 * w ≤ 1000000000000000000
        · rw [if_pos f] at e
          refine ifT (decide_eq_true (by rw [e18]; exact f)) ⟨_, rfl, _, rfl, by show 2 ≤ sizeLine; decide, fun q hq => kk q _ (same_upd hq) (.inl ⟨_, _, e, upd_same⟩)⟩
        · rw [if_neg f] at e
          exact ifF (decide_eq_false (by rw [e18]; exact f)) ⟨_, rfl, out k e⟩
      · rw [if_neg d] at R2
        refine ifF (decide_eq_false d) ⟨⟨j + 1, _, _, rfl, rfl, by omega, by omega, ?_⟩, ?_⟩
        · rw [R1, R2, decide_eq_false (by omega)]
        · show ns.length - ((j : Int) + 1).toNat < ns.length - (j : Int).toNat
          omega
abbrev s__law_read : Stmt := top 40
abbrev n__law_read : List Str := ["_law_code_here", "_law_at", "_law_steps_here", "_law_turn", "_law_word", "_law_need_here"]
theorem sc__law_read : FnScope n__law_read ["_law_code_here"] (defScope s__law_read) := ⟨rfl, rfl, rfl, by decide +kernel, rfl, by decide +kernel, by decide +kernel⟩
theorem ok__law_read {f f__law_need f__law_sum : Addr} {fd : FuncData} (F : Fun K "_law_read" "_law_read" s__law_read f fd) (B : Bt mg) (D__law_need : Dn P w K mg base 1 "_law_need" f__law_need spLNeed) (D__law_sum : Dn P w K mg base 1 "_law_sum" f__law_sum (spCheck K)) : FnOk P w K mg base CX0 2 f fd ["_law_code_here"] spLRead := by
  refine F.ok sc__law_read (fun vs H Q E h => ?_) (fun cdv A outer s H vs Q E hr h => ?_)
  · obtain ⟨a, ns, rfl, _⟩ := h
    rfl
  · obtain ⟨a, ns, rfl, ea, nl, kk⟩ := h
    refine ⟨_, C8.pss_cut (ps_if (PW.pt (pw_or (pt_cmpR op_eq (pe_callB call_len_seq (by rfl) B.len PySem.boot_len (pa_cons (pv 0) pa_nil)) pe_int (nomark _)) (pw_or1 (pt_cmpR op_ne (pe_ix ix_list (pv 0) pe_int (fun _ _ => rfl)) pe_int (nomark _)))))
        (pss_one (ps_ret (pe_tup (pa_cons pe_str (pa_cons pe_int pa_nil))))) pss_nil)
      (C8.pss_cut (ps_if (PW.pt (pw_or (pt_cmpR op_eq (pe_callB call_len_seq (by rfl) B.len PySem.boot_len (pa_cons (pv 0) pa_nil)) pe_int (nomark _)) (pw_or1 (pt_not (pt_chain op_le op_le pe_int (pe_ix ix_list (pv 0) pe_int (fun _ _ => rfl)) pe_int)))))
        (pss_one (ps_ret (pe_tup (pa_cons pe_str (pa_cons pe_int pa_nil))))) pss_nil)
      (pss_cons (ps_par (i := 1) (j := 2) rfl sc__law_read.nd rfl rfl (by decide) rfl rfl (pa_cons pe_int (pa_cons (pe_lst pa_nil) pa_nil)) (by rfl))
      (pss_cons (ps_for PassesOwn.never rfl (pi_range1 rfl B.range (pa_cons (pe_ix ix_list (pv 0) pe_int (fun _ _ => rfl)) pa_nil)) (pg_name (i := 3) sc__law_read.nd rfl (.inl rfl))
        (C8.pss_cut (ps_if (PW.pt (pw_or (pt_cmpR op_ge (pv 1) (pe_callB call_len_seq (by rfl) B.len PySem.boot_len (pa_cons (pv 0) pa_nil)) (nomark _)) (pw_or1 (pt_not (pt_chain op_le op_le pe_int (pe_ix ix_list (pv 0) (pv 1) (fun _ _ => rfl)) pe_int)))))
          (pss_one (ps_ret (pe_tup (pa_cons pe_str (pa_cons (pv 1) pa_nil))))) pss_nil)
        (pss_cons (ps_set (i := 4) sc__law_read.nd rfl (.inl rfl) (pe_ix ix_list (pe_lst (pa_cons pe_str (pa_cons pe_str (pa_cons pe_str pa_nil)))) (pe_ix ix_list (pv 0) (pv 1) (fun _ _ => rfl)) (fun _ _ => rfl)))
        (pss_cons (ps_set (i := 1) sc__law_read.nd rfl (.inl rfl) (pe_op op_add (pv 1) pe_int))
        (pss_one (ps_if (pt_cmpR op_eq (pv 4) pe_str (nomark _))
          (pss_one (ps_expr (pe_bm PySem.F.plainAttrs_list PySem.F.slot_list_append PySem.F.type_list_append mt_append (pv 2) (pa_cons (pe_tup (pa_cons (pv 4) pa_nil)) pa_nil))))
          (pss_cons (ps_asg (pe_callR D__law_need.ok (hr.mono (by decide)) rfl D__law_need.at_ D__law_need.kp pass0 (pa_cons (pv 0) (pa_cons (pv 1) pa_nil))) (pg_tup rfl (pgs_cons (pg_name (i := 5) sc__law_read.nd rfl (.inl rfl)) (pgs_cons (pg_name (i := 1) sc__law_read.nd rfl (.inl rfl)) pgs_nil))))
          (pss_cons (ps_if (pt_cmpR op_eq (pv 5) pe_str (nomark _))
            (pss_one (ps_ret (pe_tup (pa_cons (pv 5) (pa_cons (pv 1) pa_nil))))) pss_nil)
          (pss_one (ps_expr (pe_bm PySem.F.plainAttrs_list PySem.F.slot_list_append PySem.F.type_list_append mt_append (pv 2) (pa_cons (pe_tup (pa_cons (pv 4) (pa_cons (pv 5) pa_nil))) pa_nil))))))))))))
      (C8.pss_cut (ps_if (PW.pt (pw_or (pt_cmpR op_ge (pv 1) (pe_callB call_len_seq (by rfl) B.len PySem.boot_len (pa_cons (pv 0) pa_nil)) (nomark _)) (pw_or1 (pt_cmpR op_ne (pe_ix ix_list (pv 0) (pv 1) (fun _ _ => rfl)) (pe_callR D__law_sum.ok (hr.mono (by decide)) rfl D__law_sum.at_ D__law_sum.kp pass0 (pa_cons (pe_slice sl_list (pv 0) po_none (po_some (pv 1))) pa_nil)) (nomark _)))))
        (pss_one (ps_ret (pe_tup (pa_cons pe_str (pa_cons (pv 1) pa_nil))))) pss_nil)
      (pss_one (ps_ret (pe_ifExp (pt_cmpR op_lt (pe_op op_add (pv 1) pe_int) (pe_callB call_len_seq (by rfl) B.len PySem.boot_len (pa_cons (pv 0) pa_nil)) (nomark _)) (pe_tup (pa_cons pe_str (pa_cons (pe_op op_add (pv 1) pe_int) pa_nil))) (pe_tup (pa_cons pe_str (pa_cons (pe_callTy call_tuple_of (by rfl) B.tuple (by decide +kernel) (pa_cons (pv 2) pa_nil)) pa_nil)))))))))), ?_⟩
    have la := ints_len ns
    have gvat : ∀ {j : Nat} {v : Int}, ns[j]? = some v → atI (ns.map V.int) (j : Nat) = some (.int v) := fun {j v} hv => at_of (j := j) rfl (by rw [List.getElem?_map, hv]; rfl)
    have out : ∀ {H1 : Hp} {e : Nat}, Same H H1 → readF ns = .inl e → ([V.str "code", V.int (e : Nat)]).length ≤ sizeLine ∧ ∀ q, H1 q = none → Q (.ref q) (upd H1 q (.tup [.str "code", .int (e : Nat)])) := fun {H1 e} s1 he => ⟨by show 2 ≤ sizeLine; decide, fun q hq => kk q _ (s1.trans (same_upd hq)) (.inl ⟨e, he, upd_same⟩)⟩
    refine ⟨fun σ' H' => σ' = [some (.ref a), none, none, none, none, none] ∧ H' = H ∧ ns[0]? = some 99, ?_, ?_⟩
    · refine ⟨_, rfl, a, _, rfl, .inl (SqL.of ea), rfl, _, rfl, ?_⟩
      cases hv : ns[0]? with
      | none =>
        have e : ns.length ≤ 0 := List.getElem?_eq_none_iff.mp hv
        refine ifT (decide_eq_true (by rw [la, show ns.length = 0 by omega]; rfl)) (out (e := 0) (Same.refl H) ?_)
        unfold readF
        rw [hv]
      | some v =>
        have e : 0 < ns.length := (List.getElem?_eq_some_iff.mp hv).1
        refine ifF (decide_eq_false (by rw [la]; intro z; injection z; omega)) ⟨_, rfl, a, _, _, _, rfl, rfl, SqL.of ea, gvat hv, rfl, _, rfl, ?_⟩
        by_cases c : v = 99
        · exact ifF (by rw [decide_eq_true (by rw [c])]; rfl) ⟨rfl, rfl, by rw [c]⟩
        · refine ifT (by rw [decide_eq_false (by intro z; injection z; exact c (by assumption))]; rfl) (out (e := 0) (Same.refl H) ?_)
          unfold readF
          rw [hv]
          show (if v = 99 then _ else _) = _
          rw [if_neg c]
    rintro σ H1 ⟨rfl, rfl, hv0⟩
    have l1 : 1 ≤ ns.length := (List.getElem?_eq_some_iff.mp hv0).1
    have E0' : readF ns = (match (ns[1]? : Option Int) with
      | none => .inl 1
      | some m => if 0 ≤ m ∧ m ≤ 60 then (match rdSteps ns m.toNat 2 [] with
        | .inl e => .inl e
        | .inr (ss, k) => match (ns[k]? : Option Int) with
          | none => .inl k
          | some v => if v = sumF (ns.take k) then (if k + 1 < ns.length then .inl (k + 1) else .inr ss) else .inl k) else .inl 1) := by
      unfold readF
      rw [hv0]
      rfl
    refine ⟨fun σ' H' => σ' = [some (.ref a), none, none, none, none, none] ∧ H' = H1 ∧ ∃ m, ns[1]? = some m ∧ 0 ≤ m ∧ m ≤ 60, ?_, ?_⟩
    · refine ⟨_, rfl, a, _, rfl, .inl (SqL.of ea), rfl, _, rfl, ?_⟩
      cases hv : ns[1]? with
      | none =>
        have e : ns.length ≤ 1 := List.getElem?_eq_none_iff.mp hv
        exact ifT (decide_eq_true (by rw [la, show ns.length = 1 by omega]; rfl)) (out (e := 1) (Same.refl H1) (by rw [E0', hv]))
      | some v =>
        have e : 1 < ns.length := (List.getElem?_eq_some_iff.mp hv).1
        refine ifF (decide_eq_false (by rw [la]; intro z; injection z; omega)) ⟨_, rfl, a, _, _, _, rfl, rfl, SqL.of ea, gvat hv, _, _, rfl, rfl, _, rfl, ?_⟩
        have bad : ¬ (0 ≤ v ∧ v ≤ 60) → readF ns = .inl 1 := fun c => by
          rw [E0', hv]
          show (if 0 ≤ v ∧ v ≤ 60 then _ else _) = _
          rw [if_neg c]
        by_cases c0 : 0 ≤ v
        · refine ifT (decide_eq_true c0) ⟨_, _, rfl, rfl, _, rfl, ?_⟩
          by_cases c1 : v ≤ 60
          · exact ifF (by rw [decide_eq_true c1]; rfl) ⟨rfl, rfl, v, rfl, c0, c1⟩
          · exact ifT (by rw [decide_eq_false c1]; rfl) (out (e := 1) (Same.refl H1) (bad fun z => c1 z.2))
        · exact ifF (decide_eq_false c0) ⟨_, rfl, iteT (out (e := 1) (Same.refl H1) (bad fun z => c0 z.1))⟩
    rintro σ H2 ⟨rfl, rfl, m, hm, m0, m1⟩
    have l2 : 2 ≤ ns.length := (List.getElem?_eq_some_iff.mp hm).1
    have E1 : readF ns = (match rdSteps ns m.toNat 2 [] with
        | .inl e => .inl e
        | .inr (ss, k) => match (ns[k]? : Option Int) with
          | none => .inl k
          | some v => if v = sumF (ns.take k) then (if k + 1 < ns.length then .inl (k + 1) else .inr ss) else .inl k) := by
      rw [E0', hm]
      show (if 0 ≤ m ∧ m ≤ 60 then _ else _) = _
      rw [if_pos ⟨m0, m1⟩]
    clear E0'
    refine ⟨by show 0 ≤ sizeLine; decide, fun l hl => ⟨_, _, rfl, ?_⟩⟩
    have z3 := same_upd (o := .lst []) hl
    refine ⟨_, rfl, a, _, _, _, rfl, rfl, SqL.of (z3 _ _ ea), gvat hm, m, rfl, by omega, by omega, for_range (lo := 0) (n := m.toNat) (fun i σ H' => ∃ (x3 x4 x5 : Option V) (ws : List V) (acc : List Stp) (j : Nat), σ = [some (.ref a), some (.int (j : Nat)), some (.ref l), x3, x4, x5] ∧ Same H2 H' ∧ H' l = some (.lst ws) ∧ Steps H' ws acc ∧ acc.length = i ∧ j ≤ ns.length ∧
        rdSteps ns m.toNat 2 [] = rdSteps ns (m.toNat - i) j acc)
      ⟨none, none, none, [], [], 2, rfl, z3, upd_same, .nil, rfl, l2, rfl⟩ ?_ ?_⟩
    · rintro i σ H4 hi ⟨x3, x4, x5, ws, acc, j, rfl, s4, el, g4, ln, jl, R4⟩
      have lw : ws.length = acc.length := g4.length
      have R5 : rdSteps ns m.toNat 2 [] = (match stF ns j with
        | .inl e => .inl e
        | .inr (s, j') => rdSteps ns (m.toNat - (i + 1)) j' (acc ++ [s])) := by
        rw [R4, show m.toNat - i = m.toNat - (i + 1) + 1 by omega]
        rfl
      have bad : ∀ {e}, stF ns j = .inl e → readF ns = .inl e := fun {e} h => by rw [E1, R5, h]
      refine ⟨fun σ' H' => σ' = [some (.ref a), some (.int (j : Nat)), some (.ref l), some (.int (0 + (i : Int))), x4, x5] ∧ H' = H4 ∧ ∃ v, ns[j]? = some v ∧ 0 ≤ v ∧ v ≤ 2, ?_, ?_⟩
      · refine ⟨_, rfl, _, rfl, a, _, rfl, .inl (SqL.of (s4 _ _ ea)), _, _, rfl, rfl, _, rfl, ?_⟩
        cases hv : ns[j]? with
        | none =>
          have e : ns.length ≤ j := List.getElem?_eq_none_iff.mp hv
          refine ifT (decide_eq_true (by rw [la]; omega)) ⟨_, rfl, out s4 (bad ?_)⟩
          unfold stF
          rw [hv]
        | some v =>
          have e : j < ns.length := (List.getElem?_eq_some_iff.mp hv).1
          have bad2 : ¬ (0 ≤ v ∧ v ≤ 2) → readF ns = .inl j := fun c => bad (by
            unfold stF
            rw [hv]
            refine (show (if v = 2 then _ else _) = _ by rw [if_neg (by omega), if_neg (by omega)]))
          refine ifF (decide_eq_false (by rw [la]; omega)) ⟨_, rfl, _, rfl, a, _, _, _, rfl, rfl, SqL.of (s4 _ _ ea), gvat hv, _, _, rfl, rfl, _, rfl, ?_⟩
          by_cases c0 : 0 ≤ v
          · refine ifT (decide_eq_true c0) ⟨_, _, rfl, rfl, _, rfl, ?_⟩
            by_cases c1 : v ≤ 2
            · exact ifF (by rw [decide_eq_true c1]; rfl) ⟨rfl, rfl, v, rfl, c0, c1⟩
            · exact ifT (by rw [decide_eq_false c1]; rfl) ⟨_, rfl, out s4 (bad2 fun z => c1 z.2)⟩
          · exact ifF (decide_eq_false c0) ⟨_, rfl, iteT ⟨_, rfl, out s4 (bad2 fun z => c0 z.1)⟩⟩
      rintro σ H5 ⟨rfl, rfl, v, hv, v0, v2⟩
      have hj : j < ns.length := (List.getElem?_eq_some_iff.mp hv).1
      have eR : stF ns j = if v = 2 then .inr (.turn, j + 1) else if v = 0 ∨ v = 1 then (match needF ns (j + 1) with
          | .inl e => .inl e
          | .inr (n, j) => .inr (.meet (decide (v = 0)) n, j)) else .inl j := by
        unfold stF
        rw [hv] <;> rfl
      refine ⟨by show 3 ≤ sizeLine; decide, fun p hp => ?_⟩
      have zp := same_upd (o := .lst [.str "red", .str "blue", .str "turn"]) hp
      have ep := upd_same (H := H5) (a := p) (o := .lst [.str "red", .str "blue", .str "turn"])
      generalize upd H5 p (.lst [.str "red", .str "blue", .str "turn"]) = H6 at *
      have s6 := s4.trans zp
      refine ⟨_, rfl, _, rfl, a, _, _, _, rfl, rfl, SqL.of (s6 _ _ ea), gvat hv, ?_⟩
      have grow : ∀ {H7 : Hp} {q : Addr} {s : Stp} {j' : Nat}, Same H6 H7 → H7 q = some (.tup (stpV s)) → stF ns j = .inr (s, j') → j' ≤ ns.length → Same H2 (upd H7 l (.lst (ws ++ [.ref q]))) ∧ upd H7 l (.lst (ws ++ [.ref q])) l = some (.lst (ws ++ [.ref q])) ∧ Steps (upd H7 l (.lst (ws ++ [.ref q]))) (ws ++ [.ref q]) (acc ++ [s]) ∧ (acc ++ [s]).length = i + 1 ∧ j' ≤ ns.length ∧
          rdSteps ns m.toNat 2 [] = rdSteps ns (m.toNat - (i + 1)) j' (acc ++ [s]) := fun {H7 q s j'} s7 eq e jl' => by
        have el7 := s7 _ _ (zp _ _ el)
        have k5 : ∀ t us, H7 t = some (.tup us) → upd H7 l (.lst (ws ++ [.ref q])) t = some (.tup us) := fun t us z => by
          rw [upd_ne (ne_of z el7 fun y => nomatch y)]
          exact z
        exact ⟨same_new hl (s6.trans s7), upd_same, ((g4.same (zp.trans s7)).mono k5).append (.cons ⟨q, rfl, k5 _ _ eq⟩ .nil), by rw [List.length_append, ln]; rfl, jl', by rw [R5, e]⟩
      by_cases c : v = 2
      · subst c
        refine ⟨p, _, _, _, rfl, rfl, SqL.of ep, at_of (j := 2) rfl rfl, _, rfl, _, _, rfl, rfl, _, rfl, rfl, _, rfl, ifT (by decide +kernel) ⟨_, rfl, .inl ⟨rfl, _, SqL.of (zp _ _ el)⟩, _, rfl, by show 1 ≤ sizeLine; decide, fun q hq => ⟨l, ws, _, rfl, rfl, same_upd hq _ _ (zp _ _ el), small_lt (by omega), ?_⟩⟩⟩
        exact ⟨_, _, _, _, _, j + 1, rfl, grow (same_upd hq) upd_same (s := .turn) (by rw [eR]; rfl) hj⟩
      · have c01 : v = 0 ∨ v = 1 := by omega
        rw [if_neg c, if_pos c01] at eR
        have ew : atI ([.str "red", .str "blue", .str "turn"] : List V) v = some (.str (roomS (decide (v = 0)))) := by
          rcases c01 with rfl | rfl
          · exact at_of (j := 0) rfl rfl
          · exact at_of (j := 1) rfl rfl
        have ewt : decide (V.str (roomS (decide (v = 0))) = V.str "turn") = false := by
          cases decide (v = 0) <;> decide +kernel
        refine ⟨p, _, _, _, rfl, rfl, SqL.of ep, ew, _, rfl, _, _, rfl, rfl, _, rfl, rfl, _, rfl, ifF ewt ⟨_, rfl, _, rfl, a, ns, j + 1, rfl, s6 _ _ ea, hj, nl, fun q H7 s7 hq => ?_⟩⟩
        obtain ⟨b1, b2⟩ := needF_in (ns := ns) (k := j + 1) hj
        rcases hq with ⟨n, j', e, hq⟩ | ⟨e, he, hq⟩
        · refine ⟨q, _, rfl, SqT.of hq, rfl, _, _, rfl, _, _, rfl, rfl, _, rfl, rfl, _, rfl, iteF ⟨_, rfl, .inl ⟨rfl, _, SqL.of (s7 _ _ (zp _ _ el))⟩, _, rfl, _, rfl, by show 2 ≤ sizeLine; decide, fun q2 hq2 => ⟨l, ws, _, rfl, rfl, same_upd hq2 _ _ (s7 _ _ (zp _ _ el)), small_lt (by omega), ?_⟩⟩⟩
          exact ⟨_, _, _, _, _, j', rfl, grow (s7.trans (same_upd hq2)) upd_same (s := .meet (decide (v = 0)) n) (by rw [eR, e]) (b2 n j' e).2.2⟩
        · refine ⟨q, _, rfl, SqT.of hq, rfl, _, _, rfl, _, _, rfl, rfl, _, rfl, rfl, _, rfl, iteT ⟨_, rfl, _, rfl, out (s6.trans s7) (bad (by rw [eR, he]))⟩⟩
    · rintro σ H4 ⟨x3, x4, x5, ws, acc, j, rfl, s4, el, g4, ln, jl, R4⟩
      have lw : ws.length = acc.length := g4.length
      rw [Nat.sub_self] at R4
      have R5 : rdSteps ns m.toNat 2 [] = .inr (acc, j) := R4
      rw [R5] at E1
      dsimp only at E1
      refine ⟨fun σ' H' => σ' = [some (.ref a), some (.int (j : Nat)), some (.ref l), x3, x4, x5] ∧ Same H4 H' ∧ readF ns = if j + 1 < ns.length then .inl (j + 1) else .inr acc, ?_, ?_⟩
      · refine ⟨_, rfl, _, rfl, a, _, rfl, .inl (SqL.of (s4 _ _ ea)), _, _, rfl, rfl, _, rfl, ?_⟩
        cases hv : ns[j]? with
        | none =>
          have e : ns.length ≤ j := List.getElem?_eq_none_iff.mp hv
          exact ifT (decide_eq_true (by rw [la]; omega)) ⟨_, rfl, out s4 (by rw [E1, hv])⟩
        | some v =>
          have e : j < ns.length := (List.getElem?_eq_some_iff.mp hv).1
          refine ifF (decide_eq_false (by rw [la]; omega)) ⟨_, rfl, _, rfl, a, _, _, _, rfl, rfl, SqL.of (s4 _ _ ea), gvat hv, _, rfl, _, rfl, _, rfl, a, _, rfl, SqL.of (s4 _ _ ea), fun p hp => ?_⟩
          rw [cut_first (by rw [ints_len]; exact jl), ← List.map_take]
          have s5 := same_upd (o := .lst ((ns.take j).map V.int)) hp
          refine ⟨p, ns.take j, rfl, SqL.of upd_same, rfl, _, rfl, ?_⟩
          by_cases c : v = sumF (ns.take j)
          · refine ifF (by rw [decide_eq_true (by rw [c])]; rfl) ⟨rfl, s5, ?_⟩
            rw [E1, hv]
            show (if v = sumF (ns.take j) then _ else _) = _
            rw [if_pos c]
          · refine ifT (by rw [decide_eq_false (by intro z; injection z; exact c (by assumption))]; rfl) ⟨_, rfl, out (s4.trans s5) ?_⟩
            rw [E1, hv]
            show (if v = sumF (ns.take j) then _ else _) = _
            rw [if_neg c]
      rintro σ H5 ⟨rfl, s5, E2⟩
      have s25 := s4.trans s5
      refine ⟨_, rfl, _, _, rfl, rfl, _, rfl, a, _, rfl, .inl (SqL.of (s25 _ _ ea)), _, _, rfl, rfl, _, rfl, ?_⟩
      by_cases c : j + 1 < ns.length
      · rw [if_pos c] at E2
        exact ifT (decide_eq_true (by rw [la]; omega)) ⟨_, rfl, _, _, rfl, rfl, out (e := j + 1) s25 E2⟩
      · rw [if_neg c] at E2
        refine ifF (decide_eq_false (by rw [la]; omega)) ⟨_, rfl, l, _, rfl, .inl ⟨SqL.of (s5 _ _ el), fun t ht => ⟨by show 2 ≤ sizeLine; decide, fun q hq => kk q _ ((s25.trans (same_upd ht)).trans (same_upd hq)) (.inr ⟨acc, t, ws, E2, upd_same, same_upd hq _ _ upd_same, g4.same (s5.trans ((same_upd ht).trans (same_upd hq)))⟩)⟩⟩⟩
end
end Cc

/-! The end of a row whose law makes lambdas: its code's table is tracked, the script is locked. -/
namespace Cc
open PySem PySem.Spec PyProof.Rows L2
open LamX
/-- the table of a def's code, by what the written part tells -/
theorem tab_mk {K : PySem.W.Frag} {x : Str} {f c P : Addr} {oc oC : Value} {od dC : Option Addr} {fd : FuncData} {sl slC : Array (Option Value)} {vC : Array Value} (a : PySem.W.nsIn K mainGlobals x = some (some (.ref f))) (l : K.lookup f = some ⟨oc, od, .func fd, sl⟩) (hc : fd.code = .ref c)
    (lc : K.lookup c = some ⟨oC, dC, .fields vC, slC⟩) (h : vC[11]? = some (.ref P)) : PySem.W.tabIn K x = some (c, P) := by
  unfold PySem.W.tabIn
  rw [a]
  dsimp only
  rw [l]
  dsimp only
  rw [hc]
  dsimp only
  rw [lc]
  dsimp only
  rw [h]
/-- an own error class catches its own -/
theorem exm_own {K : PySem.W.Frag} {C : Addr} (b : PySem.W.subIn K (.ref C) (.type "BaseException") = some true) (i : PySem.W.isClsIn K C = true) (t : PySem.W.typeIn K (.ref C) = some (.type "type")) (s : PySem.W.subIn K (.ref C) (.ref C) = some true) : PySem.W.exmOne K (.ref C) (.ref C) = some true := by
  have i2 : (PySem.W.clsIn K C).isSome = true := i
  unfold PySem.W.exmOne PySem.W.kitCls
  simp only [b, i2, t, s]
  rfl
theorem call_tab {P : Program} {w : World} {K : PySem.W.Frag} {mg mb : Str → Option Value} {k : Nat} {fa a c T : Addr} {fd : FuncData} {x : Str} {sp : Sp} {st : Shared} {us : List Value} {ns : List Int}
    (kin : K.In st.heap) (gl : st.heap.Ns mainGlobals mg) (bl : st.heap.Ns builtinsNs mb) (blb : ∀ x : Str, x ≠ "__name__" → mb x = bootBuiltins x) (lim : st.heap.NoLimit) (ge : st.gens = #[])
    (atT : st.heap.get? T = some { cls := .none, data := .fields #[] }) (kT : K.lookup T = none) (cd : PySem.W.CodeHd st.heap c T)
    (mn : ∃ (bm : Addr) (ob : Obj), mg "__builtins__" = some (.ref bm) ∧ bm ≠ builtinsNs ∧ st.heap.get? bm = some ob ∧ ob.cls = .type "module" ∧ ob.dict = some builtinsNs ∧ ob.data = .plain)
    (atA : st.heap.get? a = some { cls := .type "list", data := .seq us.toArray }) (isI : IntsAre us ns) (len : ns.length ≤ sizeLine) (room : Room k callerA)
    (F : ∀ base : Heap, K.In base → base.Ns mainGlobals mg → TabB base mg c T → FnOk P w K mg base CX0 k fa fd [x] sp) (bind : ∀ (s : Shared) (u : Value), BindsTo s fd ⟨[u], []⟩ [(x, u)])
    (hsp : ∀ H : Hp, H T = some (.tbl #[]) → SqF K H a (ns.map V.int) → sp [.ref a] H (fun v _ => v = .bl true) fun _ _ _ => False) :
    codeAny (model P w) callerA (.call (.ref fa) ⟨[.ref a], []⟩) (fun r s' => r = .ok (.ret (.bool true)) ∧ OldK st.heap s'.heap ∧ s'.os = st.os ∧ AllBare s'.gens) st := by
  have rel := vals_ints isI
  have many := isI.length
  have neq : a ≠ T := fun z => by
    rw [z, atT] at atA
    cases atA
  obtain ⟨H, hT, hO, hS, hok, hA, hK⟩ : ∃ H : Hp, H T = some (.tbl #[]) ∧ (∀ b, H b = none ∨ b = T ∨ ∃ o xs, H b = some (.frz o (.lst xs))) ∧ SqF K H a (ns.map V.int) ∧ HOk P w H st.heap ∧ (∀ b, H b ≠ none → b = a ∨ b = T) ∧ (H a ≠ none → K.lookup a = none) := by
    cases hk : K.lookup a with
    | some o =>
      have e := kin a o hk
      rw [atA] at e
      cases e
      refine ⟨fun b => if b = T then some (.tbl #[]) else none, if_pos rfl, fun b => ?_, .inr (.inr ⟨_, us.toArray, _, hk, rfl, rfl, rfl, by rw [List.size_toArray, many]; exact len, by simpa using rel⟩), fun b u z => ?_, fun b z => ?_, fun z => (z (if_neg neq)).elim⟩
      · by_cases q : b = T
        · exact .inr (.inl q)
        · exact .inl (if_neg q)
      · by_cases q : b = T
        · cases (if_pos q).symm.trans z
          rw [q]
          exact atT
        · cases (if_neg q).symm.trans z
      · by_cases q : b = T
        · exact .inr q
        · exact (z (if_neg q)).elim
    | none =>
      refine ⟨fun b => if b = a then some (.frz { cls := .type "list", data := .seq us.toArray } (.lst (ns.map V.int))) else if b = T then some (.tbl #[]) else none, (if_neg neq.symm).trans (if_pos rfl), fun b => ?_, .inl ⟨_, if_pos rfl⟩, fun b u z => ?_, fun b z => ?_, fun _ => rfl⟩
      · by_cases q : b = a
        · exact .inr (.inr ⟨_, _, if_pos q⟩)
        · by_cases q2 : b = T
          · exact .inr (.inl q2)
          · exact .inl ((if_neg q).trans (if_neg q2))
      · by_cases q : b = a
        · cases (if_pos q).symm.trans z
          rw [q]
          exact ⟨atA, by rw [List.length_map]; exact len, us, _, rel, atA⟩
        · by_cases q2 : b = T
          · cases (if_pos q2).symm.trans ((if_neg q).symm.trans z)
            rw [q2]
            exact atT
          · cases (if_neg q2).symm.trans ((if_neg q).symm.trans z)
      · by_cases q : b = a
        · exact .inl q
        · by_cases q2 : b = T
          · exact .inr q2
          · exact (z ((if_neg q).trans (if_neg q2))).elim
  -- what is no list and no table lies in the ground
  have plain : ∀ {b : Addr} {o : Obj}, st.heap.get? b = some o → (∀ vs n, o.data ≠ .seq vs n) → o.data ≠ .fields #[] → H b = none := fun {b o} e n1 n2 => by
    cases q : H b with
    | none => rfl
    | some u =>
      rcases hA b (by rw [q]; exact fun z => nomatch z) with z | z
      · rw [z, atA] at e
        cases e
        exact (n1 _ _ rfl).elim
      · rw [z, atT] at e
        cases e
        exact (n2 rfl).elim
  have dictB : ∀ {b : Addr} {m : Str → Option Value}, st.heap.Ns b m → (hidT st.heap H).Ns b m := fun {b m} ⟨o, es, ep, e, d, r⟩ => ⟨o, es, ep, hidT_get e (plain e (fun vs n z => by rw [d] at z; cases z) fun z => by rw [d] at z; cases z), d, r⟩
  have kinB : K.In (hidT st.heap H) := fun b o e => hidT_get (kin b o e) (by
    cases q : H b with
    | none => rfl
    | some u =>
      have n0 : H b ≠ none := by rw [q]; exact fun z => nomatch z
      rcases hA b n0 with z | z
      · subst z
        rw [hK n0] at e
        cases e
      · rw [z, kT] at e
        cases e)
  have modB : L2.Mod K mg (hidT st.heap H) := ⟨kinB, dictB gl, ⟨mb, dictB bl, blb⟩, let ⟨mc, h1, h2⟩ := lim; ⟨mc, dictB h1, h2⟩⟩
  have TB : TabB (hidT st.heap H) mg c T := by
    refine ⟨?_, ?_, fun z => ?_⟩
    · obtain ⟨o, vs, file, tf, flags, tg, inF, text, tt, e1, r1, r2, r3, more⟩ := cd
      exact ⟨o, vs, file, tf, flags, tg, inF, text, tt, hidT_get e1 (plain e1 (fun vs n z => by rw [r2] at z; cases z) fun z => by rw [r2] at z; cases z; simp at r3), r1, r2, r3, more⟩
    · obtain ⟨bm, ob, b1, b2, b3, b4, b5, b6⟩ := mn
      refine ⟨bm, ob, b1, b2, fun q => ?_, fun q => ?_, hidT_get b3 (plain b3 (fun vs n z => by rw [b6] at z; cases z) fun z => by rw [b6] at z; cases z), b4, b5, b6⟩
      · obtain ⟨o, es, ep, e, d, _⟩ := gl
        rw [q, e] at b3
        cases b3
        rw [d] at b6
        cases b6
      · rw [q, atT] at b3
        cases b3
        cases b6
    · obtain ⟨o, es, ep, e, d, _⟩ := gl
      rw [z, atT] at e
      cases e
      cases d
  have e0 : Env0 P w K mg (hidT st.heap H) callerA [] st H := ⟨rfl, modB, fun b o e => of_hidT e, Nat.le_of_eq (hidT_size _ _), trivial, fun b hb => absurd (show b ∈ ([] : List Addr) from hb) List.not_mem_nil, hok, .of_eq ge⟩
  refine codeAny_mono ((F _ kinB (dictB gl) TB).run callerA [] st H ⟨[.ref a], []⟩ [.ref a] [.ref a] _ _ room e0 (bind st (.ref a)) (.cons rfl .nil) (hsp H hT hS)) fun r s' h => ?_
  cases r with
  | error e => exact False.elim h
  | ok fl =>
    cases fl with
    | next => exact False.elim h
    | brk => exact False.elim h
    | cont => exact False.elim h
    | ret u =>
      obtain ⟨v, H', os, bare, un, hok2, r2, q⟩ := h
      cases (show v = V.bl true from q)
      cases (show u = Value.bool true from r2)
      have kept : ∀ b o, b ≠ T → st.heap.get? b = some o → s'.heap.get? b = some o := fun b o nb e => by
        rcases hO b with z | z | ⟨ob, ys, z⟩
        · exact un.keep b o e z (fun w => absurd (show b ∈ ([] : List Addr) from w) List.not_mem_nil) (fun z => nomatch z)
        · exact (nb z).elim
        · obtain ⟨e1, _⟩ := hok b _ z
          obtain ⟨e2, _⟩ := hok2 b _ (un.frzs b ob _ z)
          rw [e] at e1
          cases e1
          exact e2
      obtain ⟨more, hm⟩ := un.tbls T #[] hT
      have grown : s'.heap.get? T = some { cls := .none, data := .fields (#[] ++ more) } := hok2 T _ hm
      refine ⟨rfl, ⟨fun b oo e => ?_, fun b oo e => ?_⟩, os, bare⟩
      · by_cases q : b = T
        · subst q
          rw [atT] at e
          cases e
          exact .inr (.inl ⟨(cd.tab atT).isCodeTable, rfl, #[], more, rfl, grown⟩)
        · exact .inl (kept b oo q e)
      · by_cases q : b = T
        · rw [q]
          exact ⟨_, grown⟩
        · exact ⟨oo, kept b oo q e⟩
/-- the row's end -/
theorem walk_tab {l : PySem.W.OpenLaw} {n k : Nat} {q : Program} {loose : List Str} {XP : (Str → Option Value) → Heap → Prop} {YP : World → Heap → Prop} {d : DefRec} {K : Params → PySem.W.Frag} {sp : World → Addr → Sp} {x : Str}
    (hn : l.most = some n) (hn2 : n ≤ sizeLine) (hdf : d.params.defaults = []) (hr : Room k callerA) (hY : ∀ (w : World) (h : Heap), YP w h → (K w.params).In h) (hd : (recsOf q).find? (fun e => e.name == d.name) = some d)
    (F : ∀ (w : World) (mg : Str → Option Value) (fa : Addr) (h : Heap), (K w.params).In h → h.Ns mainGlobals mg → mg d.name = some (.ref fa) → ∃ (fd : FuncData) (c T : Addr), PySem.W.tabIn (K w.params) d.name = some (c, T) ∧ (K w.params).lookup T = none ∧ (∀ (s : Shared) (u : Value), BindsTo s fd ⟨[u], []⟩ [(x, u)]) ∧
      ∀ base : Heap, (K w.params).In base → base.Ns mainGlobals mg → TabB base mg c T → FnOk l.prog w (K w.params) mg base CX0 k fa fd [x] (sp w T))
    (hsp : ∀ (w : World) (T : Addr) (H : Hp) (a : Addr) (ns : List Int), ns.length ≤ n → H T = some (.tbl #[]) → SqF (K w.params) H a (ns.map V.int) → sp w T [.ref a] H (fun v _ => v = .bl true) fun _ _ _ => False) :
    PySem.W.WalkO q loose XP YP l.row.toRowW d [] (fun g us => PySem.call g us) := by
  refine Att.attach_callB hn hdf fun w s₀ s₁ mg mb fa o pm cd doc a vs ns G Y ho hdat hcd hmg hobj hints hlen hbits hg => ?_
  have kin := hY w _ Y
  obtain ⟨fd, c, T, ht, kT, hb, hF⟩ := F w mg fa _ kin G.T.g hmg
  obtain ⟨C, atT⟩ := PySem.W.tab_of G.T kin hd ht
  exact call_tab kin G.T.g G.T.b G.T.builtins G.T.nolimit hg atT kT C G.T.bmain hobj hints (Nat.le_trans hlen hn2) hr hF hb fun H h1 h2 => hsp w T H a ns hlen h1 h2
end Cc

/-! The other kinds of errors. -/
namespace Cc
open PySem PySem.Spec PyProof.Rows L2
theorem flags_daybook : Flags true false false false false false false false false 0 "daybook" := ⟨by decide +kernel, by decide +kernel, by decide +kernel, rfl, fun m z hm hz => absurd hm (Nat.not_lt_zero m), rfl⟩
theorem flags_code : Flags false true false false false false false false false 1 "code" := ⟨by decide +kernel, by decide +kernel, by decide +kernel, rfl, fun m z hm hz => by
  match m, hm with
  | 0, _ => cases hz; decide +kernel, rfl⟩
theorem flags_operation : Flags false false false false true false false false false 4 "operation" := ⟨by decide +kernel, by decide +kernel, by decide +kernel, rfl, fun m z hm hz => by
  match m, hm with
  | 0, _ => cases hz; decide +kernel
  | 1, _ => cases hz; decide +kernel
  | 2, _ => cases hz; decide +kernel
  | 3, _ => cases hz; decide +kernel, rfl⟩
theorem flags_plan : Flags false false false false false true false false false 5 "plan" := ⟨by decide +kernel, by decide +kernel, by decide +kernel, rfl, fun m z hm hz => by
  match m, hm with
  | 0, _ => cases hz; decide +kernel
  | 1, _ => cases hz; decide +kernel
  | 2, _ => cases hz; decide +kernel
  | 3, _ => cases hz; decide +kernel
  | 4, _ => cases hz; decide +kernel, rfl⟩
theorem flags_text : Flags false false false false false false true false false 6 "text" := ⟨by decide +kernel, by decide +kernel, by decide +kernel, rfl, fun m z hm hz => by
  match m, hm with
  | 0, _ => cases hz; decide +kernel
  | 1, _ => cases hz; decide +kernel
  | 2, _ => cases hz; decide +kernel
  | 3, _ => cases hz; decide +kernel
  | 4, _ => cases hz; decide +kernel
  | 5, _ => cases hz; decide +kernel, rfl⟩
end Cc

namespace Cc
open PySem PySem.Spec PyProof.Rows L2
/-- the nine classes of errors, asked of InvalidNumber -/
structure KindN (K : PySem.W.Frag) (mg : Str → Option Value) (eDa eDe eBo eNu eOp ePl eTe eEn eFe : Addr) : Prop where
  ec : ExcC K eNu
  t0 : mg "DaybookError" = some (.ref eDa)
  t1 : mg "DecodeError" = some (.ref eDe)
  t2 : mg "InvalidBooking" = some (.ref eBo)
  t3 : mg "InvalidNumber" = some (.ref eNu)
  t4 : mg "InvalidOperation" = some (.ref eOp)
  t5 : mg "InvalidPlan" = some (.ref ePl)
  t6 : mg "InvalidText" = some (.ref eTe)
  t7 : mg "NotEnough" = some (.ref eEn)
  t8 : mg "TooFewChairs" = some (.ref eFe)
  k0 : PySem.W.kitOne K (.ref eNu) (.ref eDa) = some false
  k1 : PySem.W.kitOne K (.ref eNu) (.ref eDe) = some false
  k2 : PySem.W.kitOne K (.ref eNu) (.ref eBo) = some false
  k3 : PySem.W.kitOne K (.ref eNu) (.ref eNu) = some true
  k4 : PySem.W.kitOne K (.ref eNu) (.ref eOp) = some false
  k5 : PySem.W.kitOne K (.ref eNu) (.ref ePl) = some false
  k6 : PySem.W.kitOne K (.ref eNu) (.ref eTe) = some false
  k7 : PySem.W.kitOne K (.ref eNu) (.ref eEn) = some false
  k8 : PySem.W.kitOne K (.ref eNu) (.ref eFe) = some false
  kv : PySem.W.kitOne K (.ref eNu) (.type "ValueError") = some true
end Cc

namespace Cc
open PySem PySem.Spec PyProof.Rows L2
theorem sub_ne {K : PySem.W.Frag} {A B : Addr} (s : PySem.W.subIn K (.ref A) (.ref A) = some true) (h : PySem.W.subIn K (.ref A) (.ref B) = some false) : (Value.ref A == Value.ref B) = false := by
  refine Bool.eq_false_iff.mpr fun q => ?_; have e : A = B := Value.ref.inj (beq_iff_eq.mp q)
  subst e
  rw [s] at h
  cases h
theorem kit_noB {K : PySem.W.Frag} {A B : Addr} (s : PySem.W.subIn K (.ref A) (.ref A) = some true) (i : PySem.W.isClsIn K B = true) (t : PySem.W.typeIn K (.ref B) = some (.type "type")) (h : PySem.W.subIn K (.ref A) (.ref B) = some false) : PySem.W.kitOne K (.ref A) (.ref B) = some false :=
  kit_ref i t h fun _ => sub_ne s h
theorem kit_ve {K : PySem.W.Frag} {D : Addr} (h : PySem.W.subIn K (.ref D) (.type "ValueError") = some true) : PySem.W.kitOne K (.ref D) (.type "ValueError") = some true := by
  unfold PySem.W.kitOne
  rw [if_neg (by simp)]
  show (if PySem.W.kitMeta "ValueError" = true then _ else none) = _
  rw [if_pos (by decide +kernel)]
  exact h
theorem kbn_red {K : PySem.W.Frag} {x qual : Str} {params : Arguments} {body : List Stmt} {scope : Scope} {kV doc pm cdv ct : Value} {an : Option Addr} (h : ∀ (s : Shared) (a b z : Value), BindsTo s (PySem.W.fnOf x qual params body scope .none kV doc pm an cdv ct) ⟨[a, b], [("red", z)]⟩ [("self", a), ("chairs", b), ("red", z)]) :
    KBn K (PySem.W.fnOf x qual params body scope .none kV doc pm an cdv ct) ["self", "chairs", "red"] 2 ["red"] (fun us ws => us ++ ws) (fun vs zs => vs ++ zs) :=
  ⟨fun s us ws _ l1 l2 => match us, ws, l1, l2 with | [a, b], [z], _, _ => h s a b z, fun r1 r2 => r1.append r2⟩
end Cc

set_option maxHeartbeats 16000000
/-! The law of codes. -/
namespace Cc
open PySem PySem.Spec PyProof.Rows L2
open LamX
def spLawT (K : PySem.W.Frag) (Pt : Addr) : Sp := fun vs H Q _ => ∃ (a : Addr) (ns : List Int), vs = [.ref a] ∧ SqF K H a (ns.map V.int) ∧ ns.length ≤ 63 ∧ H Pt = some (.tbl #[]) ∧ ∀ H', Q (.bl true) H'
def spDecodeQ (C CE : Addr) : Sp := fun vs H Q _ => spDecode C CE vs H Q E0
theorem tabs_but2 {T : List (Addr × Str)} {h l : Addr} {H H' : Hp} (t : Tabs T H) (b : But2 h l H H') (n : NextAt H h l) : Tabs T H' := fun p hp => by
  obtain ⟨xs, hx⟩ := n.h1
  obtain ⟨ys, hy⟩ := n.l1
  obtain ⟨ps, h1, h2, h3⟩ := t p hp
  refine ⟨ps, b _ _ (ne_of h1 hx fun z => nomatch z) (ne_of h1 hy fun z => nomatch z) h1, h2, fun pos cv hc => ?_⟩
  obtain ⟨c0, e1, e2⟩ := h3 pos cv hc
  exact ⟨c0, e1, b _ _ (ne_of e2 hx fun z => by unfold CodeO at z; cases z) (ne_of e2 hy fun z => by unfold CodeO at z; cases z) e2⟩
theorem NextAt.ext {h l : Addr} {H H' : Hp} (n : NextAt H h l) (s : ExtN H H') : NextAt H' h l :=
  let ⟨m, k, ns, a1, a2, c, d⟩ := n
  ⟨m, k, ns, s _ _ a1 (fun _ z => by cases z), s _ _ a2 (fun _ z => by cases z), c, d⟩
theorem stpT_shaped (ss : List Stp) : SeqAt.shaped (.tuple (ss.map stpD)) = true := by
  obtain ⟨a, b, _⟩ := stpD_lay ss
  have : PyData.depth (.tuple (ss.map stpD)) ≤ 2 := by
    simp [PyData.depth]
    omega
  simp [SeqAt.shaped, PyData.canLay0, a]
  omega
theorem stpT_eqv (ss : List Stp) : PyData.eqv (.tuple (ss.map stpD)) (.tuple (ss.map stpD)) = true := SeqAt.eqv_refl_plain _ (by
  rw [PyData.plain]
  exact (stpD_lay ss).2.2)
theorem cut_tail (us : List V) {n : Nat} (h : n ≤ us.length) : cutV us (some (n : Int)) none = us.drop n := by
  unfold cutV
  rw [HT.sIx_nat, HT.sIx_none, Nat.min_eq_left h]
  exact List.take_of_length_le (by rw [List.length_drop]; exact Nat.le_refl _)
theorem cut_last (us : List V) : cutV us none (some (-1)) = us.dropLast := by
  unfold cutV
  rw [HT.sIx_none, List.drop_zero, Nat.sub_zero, List.dropLast_eq_take]
  congr 1
  show (if (-1 : Int) < 0 then ((-1 : Int) + (us.length : Int)).toNat else min (-1 : Int).toNat us.length) = _
  rw [if_pos (by decide)]
  omega
/-- a list of ints that the law made -/
structure Li (h l : Addr) (H : Hp) (p : Addr) (ns : List Int) : Prop where
  e : H p = some (.lst (ns.map V.int))
  n1 : p ≠ h
  n2 : p ≠ l
theorem Li.same {h l p : Addr} {H H' : Hp} {ns : List Int} (g : Li h l H p ns) (s : Same H H') : Li h l H' p ns := ⟨s _ _ g.e, g.n1, g.n2⟩
theorem Li.ext {h l p : Addr} {H H' : Hp} {ns : List Int} (g : Li h l H p ns) (s : ExtN H H') : Li h l H' p ns := ⟨extN_lst s g.e, g.n1, g.n2⟩
theorem Li.but2 {h l p : Addr} {H H' : Hp} {ns : List Int} (g : Li h l H p ns) (b : But2 h l H H') : Li h l H' p ns := ⟨b _ _ g.n1 g.n2 g.e, g.n1, g.n2⟩
theorem Li.new {h l p : Addr} {H : Hp} {ns : List Int} (n : NextAt H h l) (hp : H p = none) : Li h l (upd H p (.lst (ns.map V.int))) p ns :=
  ⟨upd_same, let ⟨_, e⟩ := n.h1; (ne_of_none e hp).symm, let ⟨_, e⟩ := n.l1; (ne_of_none e hp).symm⟩
theorem smd_int {K : PySem.W.Frag} {H : Hp} {i : Int} : ∀ n, SmD K H n (.int i) (.int i)
  | 0 => ⟨rfl, .inl ⟨_, rfl⟩⟩
  | n + 1 => .inl (smd_int n)
theorem smd_str {K : PySem.W.Frag} {H : Hp} {i : Str} : ∀ n, SmD K H n (.str i) (.str i)
  | 0 => ⟨rfl, .inr (.inl ⟨_, rfl⟩)⟩
  | n + 1 => .inl (smd_str n)
theorem smd_ints {K : PySem.W.Frag} {H : Hp} {n : Nat} : ∀ ns : List Int, Paired (SmD K H n) (ns.map V.int) (ns.map V.int)
  | [] => .nil
  | _ :: ns => .cons (smd_int n) (smd_ints ns)
theorem smd_steps {K : PySem.W.Frag} {H : Hp} {n : Nat} : ∀ {vs us : List V} {ss : List Stp}, Steps H vs ss → Steps H us ss → Paired (SmD K H (n + 1)) vs us
  | [], us, [], .nil, b => by cases b; exact .nil
  | v :: vs, _, s :: ss, .cons ⟨t, e, g⟩ r, b => by
    cases b with
    | cons c d =>
      obtain ⟨u, e', g'⟩ := c
      refine .cons (.inr ⟨t, u, _, _, e, e', ?_, ?_, .inr ⟨TupK.of g, TupK.of g'⟩⟩) (smd_steps r d)
      · cases s with
        | turn => show 1 ≤ 100000; decide
        | meet b k => show 2 ≤ 100000; decide
      · cases s with
        | turn => exact .cons (smd_str n) .nil
        | meet b k => exact .cons (smd_str n) (.cons (smd_int n) .nil)
theorem enc_len {ss : List Stp} (h : ∀ s ∈ ss, s.ok 1000000000000000000) (hl : ss.length ≤ 60) : (encF ss).length ≤ 603 := by
  have := code_len h hl
  unfold encF
  rw [List.length_append (as := codeF ss), List.length_singleton]
  omega
theorem enc_pos (ss : List Stp) : 0 < (encF ss).length := by
  unfold encF
  rw [List.length_append (as := codeF ss), List.length_singleton]
  omega
theorem at_int (ns : List Int) {r : Int} (h0 : 0 ≤ r) (h1 : r < ns.length) : ∃ v, atI (ns.map V.int) r = some (.int v) := by
  have hj : r.toNat < ns.length := by omega
  exact ⟨ns[r.toNat], at_of (j := r.toNat) (by omega) (by rw [List.getElem?_map, List.getElem?_eq_getElem hj]; rfl)⟩
def oddL : List Int := [0, 1, 2, 3, 60, 61, 99, 127, 128, 200, 255, 256, -1]
theorem rdSteps_len {ns : List Int} : ∀ (m k : Nat) (acc : List Stp) {ss : List Stp} {j : Nat}, rdSteps ns m k acc = .inr (ss, j) → ss.length = acc.length + m
  | 0, k, acc, ss, j, h => by
    injection h with h
    injection h with h1 h2
    rw [← h1]
    rfl
  | m + 1, k, acc, ss, j, h => by
    unfold rdSteps at h
    cases g : stF ns k with
    | inl e =>
      rw [g] at h
      cases h
    | inr p =>
      obtain ⟨s, j'⟩ := p
      rw [g] at h
      have := rdSteps_len m j' (acc ++ [s]) h
      rw [List.length_append, List.length_singleton] at this
      omega
theorem read_len {ns : List Int} {ss : List Stp} (h : readF ns = .inr ss) : ss.length ≤ 60 := by
  unfold readF at h
  cases h0 : ns[0]? with
  | none =>
    rw [h0] at h
    cases h
  | some v =>
    rw [h0] at h
    dsimp only at h
    by_cases c : v = 99
    · rw [if_pos c] at h
      cases h1 : ns[1]? with
      | none =>
        rw [h1] at h
        cases h
      | some m =>
        rw [h1] at h
        dsimp only at h
        by_cases d : 0 ≤ m ∧ m ≤ 60
        · rw [if_pos d] at h
          cases g : rdSteps ns m.toNat 2 [] with
          | inl e =>
            rw [g] at h
            cases h
          | inr p =>
            obtain ⟨us, k⟩ := p
            rw [g] at h
            dsimp only at h
            have lu := rdSteps_len _ _ _ g
            have e : us = ss := by
              cases h2 : ns[k]? with
              | none =>
                rw [h2] at h
                cases h
              | some u =>
                rw [h2] at h
                dsimp only at h
                by_cases c1 : u = sumF (ns.take k)
                · rw [if_pos c1] at h
                  by_cases c2 : k + 1 < ns.length
                  · rw [if_pos c2] at h
                    cases h
                  · rw [if_neg c2] at h
                    injection h
                · rw [if_neg c1] at h
                  cases h
            rw [← e, lu]
            show 0 + m.toNat ≤ 60
            omega
        · rw [if_neg d] at h
          cases h
    · rw [if_neg c] at h
      cases h
theorem fnr_calm {P : Program} {w : World} {K : PySem.W.Frag} {mg : Str → Option Value} {base : Heap} {k : Nat} {f : Addr} {sp : Sp} (F : FnR P w K mg base (L2.CX P w) k f sp) : FnR P w K mg base CX0 k f (fun vs H Q _ => sp vs H Q E0) := by
  intro A outer s H us vs Q E hr e0 r h
  refine codeAny_mono (F A outer s H us vs Q E0 hr e0 r h) fun z s' hq => ?_
  cases z with
  | error e =>
    obtain ⟨_, _, _, _, _, _, _, _, _, _, _, _, q⟩ := hq
    exact q.elim
  | ok fl =>
    cases fl with
    | ret u => exact hq
    | next => exact hq
    | brk => exact hq
    | cont => exact hq
section
variable {P : Program} {w : World} {K : PySem.W.Frag} {mg : Str → Option Value} {base : Heap} {C CER TU pS gS e0 e1 e2 e3 e4 e5 e6 e7 e8 : Addr} {mc : Value}
abbrev sLaw : Stmt := top 41
abbrev nLaw : List Str := ["_law_script", "_law_h", "_law_turn", "_law_steps_here", "_law_plain", "_law_code_here", "_law_change", "_law_at", "_law_odd", "_law_some", "_law_bent", "_law_big", "_law_small"]
abbrev qLam : Str := (envOfC "law" (defScope sLaw) 0 0 .none).qual ++ "<lambda>"
abbrev XL (P : Program) (w : World) (K : PySem.W.Frag) (mg : Str → Option Value) (base : Heap) (f c : Addr) (A : Around) (outer : List Env) (s : Shared) (H : Hp) (E : XK) : Cx := (cxOf CX0 P w K mg base nLaw "law" (defScope sLaw) f (.ref c) A outer s H E).nox
theorem scLaw : FnScope nLaw ["_law_script"] (defScope sLaw) := ⟨rfl, rfl, rfl, by decide +kernel, rfl, by decide +kernel, by decide +kernel⟩
theorem ok_law {f c Pt f__law_mix f__law_steps f__law_next f__law_code f__law_sum f__law_alike f_encode_plan f__law_plan f__law_read fO fDc fDx : Addr} {oc kV doc pm ct : Value} {od an : Option Addr} {osl : Array (Option Value)} {fdS fdO : FuncData}
    (lk : K.lookup f = some ⟨oc, od, .func (PySem.W.fnOf "law" "law" (defArgs sLaw) (defBody sLaw) (defScope sLaw) .none kV doc pm an (.ref c) ct), osl⟩) (hcd : PySem.W.codeIn K (.ref c) "law" = true) (TB : TabB base mg c Pt) (T : Txt K mg C TU pS gS mc)
    (G : Gs P w K mg base C gS fdS) (D__law_mix : Dn P w K mg base 1 "_law_mix" f__law_mix (spMix K)) (D__law_steps : Dn P w K mg base 2 "_law_steps" f__law_steps spSteps2) (D__law_next : Dn P w K mg base 1 "_law_next" f__law_next spNext) (D__law_code : Dn P w K mg base 3 "_law_code" f__law_code spLCode) (D__law_sum : Dn P w K mg base 1 "_law_sum" f__law_sum (spCheck K)) (D__law_alike : Dn P w K mg base 6 "_law_alike" f__law_alike (spAlike K 5)) (D_encode_plan : Dn P w K mg base 3 "encode_plan" f_encode_plan (spEncode C)) (D__law_plan : Dn P w K mg base 6 "_law_plan" f__law_plan (spLPlan C)) (D__law_read : Dn P w K mg base 2 "_law_read" f__law_read spLRead)
    (FO : Fun K "_law_outcome" "_law_outcome" sOutcome fO fdO) (atO : mg "_law_outcome" = some (.ref fO)) (kpO : PySem.W.keepIn K (.ref fO) = true) (bO : Binds K fdO ["_law_call"] []) (hCE : mg "ChairError" = some (.ref CER)) (NG : Nine mg e0 e1 e2 e3 e4 e5 e6 e7 e8) (KN : IsKind K CER e0 e1 e2 e3 e4 e5 e6 e7 e8 e1 "code") (DC : Dn P w K mg base 5 "decode_plan" fDc (spDecodeQ C e1)) (DX : DnX P w K mg base 5 "decode_plan" fDx (spDecode C e1)) :
    FnOk P w K mg base CX0 10 f (PySem.W.fnOf "law" "law" (defArgs sLaw) (defBody sLaw) (defScope sLaw) .none kV doc pm an (.ref c) ct) ["_law_script"] (spLawT K Pt) := by
  have B := T.b
  refine fn_of lk hcd scLaw (fun vs H Q E h => ?_) fun A outer s H vs Q E hr h => ?_
  · obtain ⟨a, ns, rfl, _⟩ := h
    rfl
  · obtain ⟨a, ns, rfl, hF, hlen, hPt, k⟩ := h
    suffices h : ∃ t, PSs (XL P w K mg base f c A outer s H E) (defBody sLaw) t ∧ t { nx := fun _ H' => Q .non H', rt := Q } (start nLaw [.ref a]) H from let ⟨t, h1, h2⟩ := h; ⟨t, h1.nox, h2⟩
    have hm : (Pt, (XL P w K mg base f c A outer s H E).env.qual ++ "<lambda>") ∈ [(Pt, qLam)] := List.mem_singleton.mpr rfl
    have hu : ∀ p ∈ [(Pt, qLam)], p.1 = Pt → p.2 = (XL P w K mg base f c A outer s H E).env.qual ++ "<lambda>" := fun p hp _ => by rw [List.mem_singleton.mp hp]; rfl
    refine ⟨_, pss_cons (ps_set (i := 1) scLaw.nd rfl (.inl rfl) (pe_callR D__law_mix.ok (hr.mono (by decide)) rfl D__law_mix.at_ D__law_mix.kp pass0 (pa_cons (pv 0) (pa_cons pe_int pa_nil))))
      (pss_cons (ps_for PassesOwn.never rfl (pi_range1 rfl T.b.range (pa_cons pe_int pa_nil)) (pg_name (i := 2) scLaw.nd rfl (.inl rfl))
        (pss_cons (ps_set (i := 3) scLaw.nd rfl (.inl rfl) (pe_callR D__law_steps.ok (hr.mono (by decide)) rfl D__law_steps.at_ D__law_steps.kp pass0 (pa_cons (pv 1) (pa_cons (pe_ix ix_list (pe_lst (pa_cons pe_int (pa_cons pe_int (pa_cons (pe_op op_pow pe_int pe_int) pa_nil)))) (pe_callR D__law_next.ok (hr.mono (by decide)) rfl D__law_next.at_ D__law_next.kp pass0 (pa_cons (pv 1) (pa_cons pe_int pa_nil))) (fun _ _ => rfl)) (pa_cons pe_int pa_nil)))))
        (pss_cons (ps_set (i := 4) scLaw.nd rfl (.inl rfl) (pe_callR D__law_code.ok (hr.mono (by decide)) rfl D__law_code.at_ D__law_code.kp pass0 (pa_cons (pv 3) pa_nil)))
        (pss_cons (ps_set (i := 5) scLaw.nd rfl (.inl rfl) (pe_op op_cat (pv 4) (pe_lst (pa_cons (pe_callR D__law_sum.ok (hr.mono (by decide)) rfl D__law_sum.at_ D__law_sum.kp pass0 (pa_cons (pv 4) pa_nil)) pa_nil))))
        (pss_cons (ps_if (PW.pt (pw_or (pt_not (pt_val (pe_callR D__law_alike.ok (hr.mono (by decide)) rfl D__law_alike.at_ D__law_alike.kp pass0 (pa_cons (pe_callR D_encode_plan.ok (hr.mono (by decide)) rfl D_encode_plan.at_ D_encode_plan.kp pass0 (pa_cons (pe_callR D__law_plan.ok (hr.mono (by decide)) rfl D__law_plan.at_ D__law_plan.kp pass0 (pa_cons (pv 3) pa_nil)) pa_nil)) (pa_cons (pv 5) pa_nil))))) (pw_or1 (pt_cmpR (op_neD hr.units) (pe_prop (pe_callR DC.ok (hr.mono (by decide)) rfl DC.at_ DC.kp pass0 (pa_cons (pv 5) pa_nil)) T.cl T.pr G.ok (hr.mono (by decide)) G.b .nil pass0 rfl) (pe_callTy call_tuple_of (by rfl) T.b.tuple (by decide +kernel) (pa_cons (pv 3) pa_nil)) (nomark _)))))
          (pss_one (ps_ret pe_bl)) pss_nil)
        (pss_one (ps_for PassesOwn.never rfl (pi_range1 rfl T.b.range (pa_cons pe_int pa_nil)) (pg_name (i := 6) scLaw.nd rfl (.inl rfl))
          (C8.pss_cut (ps_par (i := 7) (j := 8) rfl scLaw.nd rfl rfl (by decide) rfl rfl (pa_cons (pe_callR D__law_next.ok (hr.mono (by decide)) rfl D__law_next.at_ D__law_next.kp pass0 (pa_cons (pv 1) (pa_cons (pe_callB call_len_seq (by rfl) T.b.len PySem.boot_len (pa_cons (pv 5) pa_nil)) pa_nil))) (pa_cons (pe_ix ix_list (pe_lst (pa_cons pe_int (pa_cons pe_int (pa_cons pe_int (pa_cons pe_int (pa_cons pe_int (pa_cons pe_int (pa_cons pe_int (pa_cons pe_int (pa_cons pe_int (pa_cons pe_int (pa_cons pe_int (pa_cons pe_int (pa_cons (pe_un un_neg pe_int) pa_nil)))))))))))))) (pe_callR D__law_next.ok (hr.mono (by decide)) rfl D__law_next.at_ D__law_next.kp pass0 (pa_cons (pv 1) (pa_cons pe_int pa_nil))) (fun _ _ => rfl)) pa_nil)) (by rfl))
          (C8.pss_cut (ps_set (i := 9) scLaw.nd rfl (.inl rfl) (pe_lst (pa_cons (pe_op op_cat (pe_op op_cat (pe_slice sl_list (pv 5) po_none (po_some (pv 7))) (pe_lst (pa_cons (pv 8) pa_nil))) (pe_slice sl_list (pv 5) (po_some (pe_op op_add (pv 7) pe_int)) po_none)) (pa_cons (pe_slice sl_list (pv 5) po_none (po_some (pv 7))) (pa_cons (pe_op op_cat (pe_slice sl_list (pv 5) po_none (po_some (pv 7))) (pe_slice sl_list (pv 5) (po_some (pe_op op_add (pv 7) pe_int)) po_none)) (pa_cons (pe_op op_cat (pv 5) (pe_lst (pa_cons (pv 8) pa_nil))) pa_nil))))))
          (pss_cons (ps_set (i := 10) scLaw.nd rfl (.inr rfl) (pe_ix ix_list (pv 9) (pe_callR D__law_next.ok (hr.mono (by decide)) rfl D__law_next.at_ D__law_next.kp pass0 (pa_cons (pv 1) (pa_cons pe_int pa_nil))) (fun _ _ => rfl)))
          (C8.pss_cut (ps_if (PW.pt (pw_and (pt_cmpR op_eq (pe_callR D__law_next.ok (hr.mono (by decide)) rfl D__law_next.at_ D__law_next.kp pass0 (pa_cons (pv 1) (pa_cons pe_int pa_nil))) pe_int (nomark _)) (pw_and1 (pt_cmpR op_gt (pe_callB call_len_seq (by rfl) T.b.len PySem.boot_len (pa_cons (pv 10) pa_nil)) pe_int (nomark _)))))
            (pss_one (ps_set (i := 10) scLaw.nd rfl (.inr rfl) (pe_op op_cat (pe_slice sl_list (pv 10) po_none (po_some (pe_un un_neg pe_int))) (pe_lst (pa_cons (pe_callR D__law_sum.ok (hr.mono (by decide)) rfl D__law_sum.at_ D__law_sum.kp pass0 (pa_cons (pe_slice sl_list (pv 10) po_none (po_some (pe_un un_neg pe_int))) pa_nil)) pa_nil))))) pss_nil)
          (pss_one (ps_if (pt_not (pt_val (pe_callR D__law_alike.ok (hr.mono (by decide)) rfl D__law_alike.at_ D__law_alike.kp pass0 (pa_cons (pe_outA (k := 6) FO atO kpO bO hCE NG B (hr.mono (by decide)) (by rfl) (pe_lam0 TB rfl hm hu rfl rfl fun ok => (lamN_by (N := nLaw) (sc := defScope sLaw) (by decide +kernel)).has ok)) (pa_cons (pe_callR D__law_read.ok (hr.mono (by decide)) rfl D__law_read.at_ D__law_read.kp pass0 (pa_cons (pv 10) pa_nil)) pa_nil)))))
            (pss_one (ps_ret pe_bl)) pss_nil)))))))))))))
      (pss_cons (ps_set (i := 11) scLaw.nd rfl (.inr rfl) (pe_op op_cat (pe_op op_cat (pe_lst (pa_cons pe_int (pa_cons pe_int (pa_cons pe_int pa_nil)))) (pe_op op_rep (pe_lst (pa_cons pe_int pa_nil)) pe_int)) (pe_lst (pa_cons pe_int pa_nil))))
      (pss_cons (ps_set (i := 12) scLaw.nd rfl (.inl rfl) (pe_lst (pa_cons pe_int (pa_cons pe_int (pa_cons pe_int (pa_cons pe_int (pa_cons pe_int (pa_cons pe_int (pa_cons pe_int (pa_cons pe_int (pa_cons pe_int (pa_cons pe_int (pa_cons pe_int (pa_cons pe_int pa_nil))))))))))))))
      (pss_cons (ps_if (pt_cmpR (op_neD hr.units) (pe_prop (pe_callR DC.ok (hr.mono (by decide)) rfl DC.at_ DC.kp pass0 (pa_cons (pe_op op_cat (pv 12) (pe_lst (pa_cons (pe_callR D__law_sum.ok (hr.mono (by decide)) rfl D__law_sum.at_ D__law_sum.kp pass0 (pa_cons (pv 12) pa_nil)) pa_nil))) pa_nil)) T.cl T.pr G.ok (hr.mono (by decide)) G.b .nil pass0 rfl) (pe_tup (pa_cons (pe_tup (pa_cons pe_str (pa_cons (pe_op op_pow pe_int pe_int) pa_nil))) pa_nil)) (nomark _))
        (pss_one (ps_ret pe_bl)) pss_nil)
      (pss_one (ps_ret (pe_cmpR (op_eqD hr.units) (pe_outA (k := 6) FO atO kpO bO hCE NG B (hr.mono (by decide)) (by rfl) (pe_lam0 TB rfl hm hu rfl rfl fun ok => (lamN_by (N := nLaw) (sc := defScope sLaw) (by decide +kernel)).has ok)) (pe_tup (pa_cons pe_str (pa_cons pe_int pa_nil))) (nomark _)))))))), ?_⟩
    have tb0 : Tabs [(Pt, qLam)] H := fun p hp => by rw [List.mem_singleton.mp hp]; exact TabS.nil hPt
    refine ⟨_, rfl, a, ns, 48, rfl, hF, hlen, fun h l H1 _ _ s1 N1 => ?_⟩
    have T1 := Tabs.ext tb0 s1
    have e18 : (10 : Int) ^ (18 : Int).toNat = 1000000000000000000 := by decide
    refine ⟨3, rfl, by decide, by decide, for_range (lo := 0) (n := 3) (fun i σ H' => ∃ (x2 x3 x4 x5 x6 x7 x8 x9 x10 x11 x12 : Option V), σ = [some (.ref a), some (.ref h), x2, x3, x4, x5, x6, x7, x8, x9, x10, x11, x12] ∧ NextAt H' h l ∧ Tabs [(Pt, qLam)] H')
      ⟨none, none, none, none, none, none, none, none, none, none, none, rfl, N1, T1⟩ ?_ ?_⟩
    · rintro i0 σ H2 hi0 ⟨x2, x3, x4, x5, x6, x7, x8, x9, x10, x11, x12, rfl, N2, T2⟩
      refine ⟨_, rfl, _, _, rfl, rfl, ⟨by decide, by decide, by decide⟩, by show 3 ≤ sizeLine; decide, fun l3 hl3 => ?_⟩
      have s3 := same_upd (o := .lst [.int 9, .int 300, .int ((10 : Int) ^ (18 : Int).toNat)]) hl3
      have e3 := upd_same (H := H2) (a := l3) (o := .lst [.int 9, .int 300, .int ((10 : Int) ^ (18 : Int).toNat)])
      have n3 : l3 ≠ h ∧ l3 ≠ l := ⟨let ⟨_, e⟩ := N2.h1; (ne_of_none e hl3).symm, let ⟨_, e⟩ := N2.l1; (ne_of_none e hl3).symm⟩
      refine ⟨_, rfl, h, l, 3, rfl, N2.same s3, by decide, by decide, fun r H4 r0 r1 N4 b4 => ?_⟩
      obtain ⟨hi, ehi, h0, h1⟩ : ∃ hi : Int, atI [V.int 9, V.int 300, V.int ((10 : Int) ^ (18 : Int).toNat)] r = some (V.int hi) ∧ 0 ≤ hi ∧ hi ≤ 1000000000000000000 := by
        have : r = ((0 : Nat) : Int) ∨ r = ((1 : Nat) : Int) ∨ r = ((2 : Nat) : Int) := by omega
        rcases this with q | q | q
        · exact ⟨_, at_of q rfl, by decide, by decide⟩
        · exact ⟨_, at_of q rfl, by decide, by decide⟩
        · exact ⟨_, at_of q rfl, by rw [e18]; decide, by rw [e18]; decide⟩
      have T4 := tabs_but2 (Tabs.ext T2 s3) b4 (N2.same s3)
      refine ⟨l3, _, _, _, rfl, rfl, SqL.of (b4 _ _ n3.1 n3.2 e3), ehi, h, l, hi, 8, rfl, N4, h0, h1, by decide, by decide, fun rl ws ss H5 hrl el g hn ho N5 b5 => ?_⟩
      have T5 := tabs_but2 T4 b5 N4
      have o18 : ∀ s ∈ ss, s.ok 1000000000000000000 := fun s hs => (ho s hs).mono h1
      have hl60 : ss.length ≤ 60 := by omega
      clear s3 e3 n3 ehi hl3 N4 b4 T4 b5 hrl N2 T2
      refine ⟨_, rfl, rl, ws, ss, rfl, el, g, hl60, o18, fun lp H6 s6 e6 => ?_⟩
      refine ⟨_, rfl, _, rfl, lp, codeF ss, rfl, SqL.of e6, by show 1 ≤ sizeLine; decide, fun q hq => ⟨lp, q, _, _, rfl, rfl, same_upd hq _ _ e6, upd_same, small_sz (by show ((codeF ss).map V.int).length + 1 ≤ _; rw [ints_len]; have := code_len o18 hl60; omega), fun cl hcl => ?_⟩⟩
      have eC : (codeF ss).map V.int ++ [V.int (sumF (codeF ss))] = (encF ss).map V.int := by
        unfold encF
        rw [List.map_append]
        rfl
      rw [eC]
      have s7 := s6.trans (same_upd (o := .lst [.int (sumF (codeF ss))]) hq)
      have N7 := N5.same s7
      have C8' := Li.new (ns := encF ss) N7 hcl
      have s8 := s7.trans (same_upd (o := .lst ((encF ss).map V.int)) hcl)
      generalize upd (upd H6 q (.lst [.int (sumF (codeF ss))])) cl (.lst ((encF ss).map V.int)) = H8 at *
      have N8 := N5.same s8
      have T8 := Tabs.ext T5 s8
      have el8 := s8 _ _ el
      have g8 := g.same s8
      clear s6 e6 hq s7 N7 s8 hcl N5 T5 el g
      -- encoded, decoded
      refine ⟨_, rfl, rl, ws, ss, rfl, el8, g8, hl60, o18, fun p H9 s9 pl => ⟨p, ss, rfl, pl, hl60, o18, fun q2 H10 s10 e10 => ⟨_, rfl, .ref q2, .ref cl, rfl, .inr ⟨q2, cl, _, _, rfl, rfl, ?_, smd_ints (encF ss), .inl ⟨e10, (s9.trans s10) _ _ C8'.e⟩⟩, fun H11 s11 => ⟨_, rfl, iteF ?_⟩⟩⟩⟩
      · rw [ints_len]
        have := enc_len o18 hl60
        omega
      have s9' := s9.trans (s10.trans s11)
      have C11 := C8'.same s9'
      have N11 := N8.same s9'
      have T11 := Tabs.ext T8 s9'
      have el11 := s9' _ _ el8
      have g11 := g8.same s9'
      clear s9 s10 s11 s9' e10 pl C8' N8 T8 el8 g8
      refine ⟨_, rfl, cl, encF ss, rfl, C11.e, Nat.le_trans (enc_len o18 hl60) (by decide), fun ss2 e2 p2 H12 s12 pl => ?_, fun e he => by rw [read_enc o18 hl60] at he; cases he⟩
      have ess : ss = ss2 := by
        rw [read_enc o18 hl60] at e2
        injection e2
      subst ess
      obtain ⟨dx, tp, us, ep, etp, gp⟩ := id pl
      refine ⟨p2, dx, _, rfl, ep, p2, dx, _, _, rfl, ep, lk_self, _, rfl, rl, _, rfl, .inl ⟨SqL.of (s12 _ _ el11), fun tq htq => ?_⟩⟩
      have s13 := same_upd (o := .tup ws) htq
      refine ⟨.tuple (ss.map stpD), .tuple (ss.map stpD), .tup (etp.same s13).sq (stpD_dp (gp.same s13)), .tup (SqT.of upd_same) (stpD_dp (g11.same (s12.trans s13))), stpT_shaped ss, stpT_shaped ss, _, rfl, ifF (by rw [stpT_eqv ss]; rfl) ?_⟩
      have s14 := s12.trans s13
      have C14 := C11.same s14
      have N14 := N11.same s14
      have T14 := Tabs.ext T11 s14
      generalize upd H12 tq (.tup ws) = H14 at *
      clear s12 s13 s14 etp gp ep pl C11 N11 T11 el11 g11 htq e2
      have le := enc_len o18 hl60
      have lp0 := enc_pos ss
      generalize encF ss = cs at *
      refine ⟨5, rfl, by decide, by decide, for_range (lo := 0) (n := 5) (fun i σ H' => ∃ (x6 x7 x8 x9 x10 : Option V), σ = [some (.ref a), some (.ref h), some (.int (0 + (i0 : Int))), some (.ref rl), some (.ref lp), some (.ref cl), x6, x7, x8, x9, x10, x11, x12] ∧ NextAt H' h l ∧ Tabs [(Pt, qLam)] H' ∧ Li h l H' cl cs)
        ⟨_, _, _, _, _, rfl, N14, T14, C14⟩ ?_ ?_⟩
      · clear N14 T14 C14
        rintro i1 σ H14 hi1 ⟨x6, x7, x8, x9, x10, rfl, N14, T14, C14⟩
        -- the place and the odd number
        refine ⟨fun σ' H' => ∃ (at_ : Nat) (od : Int), σ' = [some (.ref a), some (.ref h), some (.int (0 + (i0 : Int))), some (.ref rl), some (.ref lp), some (.ref cl), some (.int (0 + (i1 : Int))), some (.int (at_ : Nat)), some (.int od), x9, x10, x11, x12] ∧ NextAt H' h l ∧ Tabs [(Pt, qLam)] H' ∧ Li h l H' cl cs ∧ at_ < cs.length, ?_, ?_⟩
        · refine ⟨_, rfl, _, rfl, cl, _, rfl, .inl (SqL.of C14.e), h, l, _, rfl, N14, by rw [ints_len]; omega, by rw [ints_len]; omega, fun at_ H15 a0 a1 N15 b15 => ⟨_, rfl, by show 13 ≤ sizeLine; decide, fun lo hlo => ?_⟩⟩
          have slo := same_upd (o := .lst (oddL.map V.int)) hlo
          have Lo := Li.new (ns := oddL) N15 hlo
          refine ⟨_, rfl, h, l, 13, rfl, N15.same slo, by decide, by decide, fun r H16 r0 r1 N16 b16 => ?_⟩
          obtain ⟨od, eod⟩ := at_int oddL r0 (by show r < 13; exact r1)
          have T15 := tabs_but2 T14 b15 N14
          have T16 := tabs_but2 (Tabs.ext T15 slo) b16 (N15.same slo)
          refine ⟨lo, _, _, _, rfl, rfl, SqL.of (Lo.but2 b16).e, eod, _, _, rfl, at_.toNat, od, ?_, N16, T16, ((C14.but2 b15).same slo).but2 b16, ?_⟩
          · rw [Int.toNat_of_nonneg a0]
            rfl
          · rw [ints_len] at a1
            omega
        clear N14 T14 C14
        rintro σ H15 ⟨at_, od, rfl, N15, T15, C15, hat⟩
        -- four codes
        refine ⟨fun σ' H' => ∃ (p9 p1 p2 p3 p4 : Addr) (b1 b2 b3 b4 : List Int), σ' = [some (.ref a), some (.ref h), some (.int (0 + (i0 : Int))), some (.ref rl), some (.ref lp), some (.ref cl), some (.int (0 + (i1 : Int))), some (.int (at_ : Nat)), some (.int od), some (.ref p9), x10, x11, x12] ∧ NextAt H' h l ∧ Tabs [(Pt, qLam)] H' ∧ Li h l H' cl cs ∧
          H' p9 = some (.lst [.ref p1, .ref p2, .ref p3, .ref p4]) ∧ p9 ≠ h ∧ p9 ≠ l ∧ Li h l H' p1 b1 ∧ Li h l H' p2 b2 ∧ Li h l H' p3 b3 ∧ Li h l H' p4 b4 ∧ b1.length ≤ 700 ∧ b2.length ≤ 700 ∧ b3.length ≤ 700 ∧ b4.length ≤ 700, ?_, ?_⟩
        · have tk : ∀ {k : Nat}, k ≤ cs.length → cutV (cs.map V.int) none (some (k : Int)) = (cs.take k).map V.int := fun {k} hk => by rw [cut_first (by rw [ints_len]; exact hk), List.map_take]
          have dr : cutV (cs.map V.int) (some ((at_ : Int) + 1)) none = (cs.drop (at_ + 1)).map V.int := by rw [show (at_ : Int) + 1 = ((at_ + 1 : Nat) : Int) from rfl, cut_tail _ (by rw [ints_len]; exact hat), List.map_drop]
          have lt : (cs.take at_).length ≤ 603 := Nat.le_trans (List.length_take_le' _ _) le
          have ld : (cs.drop (at_ + 1)).length ≤ 603 := by rw [List.length_drop]; omega
          have s0 : Same H15 H15 := Same.refl H15
          refine ⟨_, rfl, _, rfl, _, rfl, cl, _, rfl, SqL.of C15.e, fun q1 hq1 => ?_⟩
          rw [tk (Nat.le_of_lt hat)]
          have g1 := Li.new (ns := cs.take at_) N15 hq1
          have s1 := same_upd (o := .lst ((cs.take at_).map V.int)) hq1
          generalize upd H15 q1 (.lst ((cs.take at_).map V.int)) = G1 at *
          refine ⟨_, rfl, by show 1 ≤ sizeLine; decide, fun q2 hq2 => ?_⟩
          have e2 := upd_same (H := G1) (a := q2) (o := .lst [.int od])
          have s2 := same_upd (o := .lst [.int od]) hq2
          generalize upd G1 q2 (.lst [.int od]) = G2 at *
          refine ⟨q1, q2, _, _, rfl, rfl, s2 _ _ g1.e, e2, small_sz (by show (List.map V.int _).length + 1 ≤ _; rw [ints_len]; omega), fun q3 hq3 => ?_⟩
          have eq3 : (cs.take at_).map V.int ++ [V.int od] = (cs.take at_ ++ [od]).map V.int := by rw [List.map_append]; rfl
          rw [eq3]
          have s12 := s1.trans s2
          have g3 := Li.new (ns := cs.take at_ ++ [od]) (N15.same s12) hq3
          have s3 := s12.trans (same_upd (o := .lst ((cs.take at_ ++ [od]).map V.int)) hq3)
          generalize upd G2 q3 (.lst ((cs.take at_ ++ [od]).map V.int)) = G3 at *
          clear e2 s2 g1 s1 s12 eq3 hq1 hq2 hq3
          refine ⟨_, rfl, _, rfl, _, _, rfl, rfl, _, rfl, cl, _, rfl, SqL.of (C15.same s3).e, fun q4 hq4 => ?_⟩
          rw [dr]
          have z4 := same_upd (o := .lst ((cs.drop (at_ + 1)).map V.int)) hq4
          have e4 := upd_same (H := G3) (a := q4) (o := .lst ((cs.drop (at_ + 1)).map V.int))
          generalize upd G3 q4 (.lst ((cs.drop (at_ + 1)).map V.int)) = G4 at *
          refine ⟨q3, q4, _, _, rfl, rfl, z4 _ _ g3.e, e4, small_sz (by show (List.map V.int _).length + (List.map V.int _).length ≤ _; rw [ints_len, ints_len, List.length_append]; show _ + 1 + _ ≤ _; omega), fun p1 hp1 => ?_⟩
          rw [ints_app]
          have s4 := s3.trans z4
          have g5 := Li.new (ns := (cs.take at_ ++ [od]) ++ cs.drop (at_ + 1)) (N15.same s4) hp1
          have s5 := s4.trans (same_upd (o := .lst (((cs.take at_ ++ [od]) ++ cs.drop (at_ + 1)).map V.int)) hp1)
          have l5 : ((cs.take at_ ++ [od]) ++ cs.drop (at_ + 1)).length ≤ 700 := by
            rw [List.length_append, List.length_append, List.length_take, List.length_drop]
            show _ + 1 + _ ≤ _
            omega
          generalize (cs.take at_ ++ [od]) ++ cs.drop (at_ + 1) = b1 at *
          generalize upd G4 p1 (.lst (b1.map V.int)) = G5 at *
          clear z4 e4 g3 s3 s4 hq4 hp1
          -- the second
          refine ⟨_, rfl, _, rfl, _, rfl, cl, _, rfl, SqL.of (C15.same s5).e, fun p2 hp2 => ?_⟩
          rw [tk (Nat.le_of_lt hat)]
          have g6 := Li.new (ns := cs.take at_) (N15.same s5) hp2
          have z6 := same_upd (o := .lst ((cs.take at_).map V.int)) hp2
          have s6 := s5.trans z6
          have g5' := g5.same z6
          generalize upd G5 p2 (.lst ((cs.take at_).map V.int)) = G6 at *
          clear z6 g5 s5 hp2
          -- the third
          refine ⟨_, rfl, _, rfl, _, rfl, cl, _, rfl, SqL.of (C15.same s6).e, fun q7 hq7 => ?_⟩
          rw [tk (Nat.le_of_lt hat)]
          have e7 := upd_same (H := G6) (a := q7) (o := .lst ((cs.take at_).map V.int))
          have z7 := same_upd (o := .lst ((cs.take at_).map V.int)) hq7
          generalize upd G6 q7 (.lst ((cs.take at_).map V.int)) = G7 at *
          refine ⟨_, rfl, _, rfl, _, _, rfl, rfl, _, rfl, cl, _, rfl, SqL.of ((C15.same s6).same z7).e, fun q8 hq8 => ?_⟩
          rw [dr]
          have e8 := upd_same (H := G7) (a := q8) (o := .lst ((cs.drop (at_ + 1)).map V.int))
          have z8 := same_upd (o := .lst ((cs.drop (at_ + 1)).map V.int)) hq8
          generalize upd G7 q8 (.lst ((cs.drop (at_ + 1)).map V.int)) = G8 at *
          refine ⟨q7, q8, _, _, rfl, rfl, z8 _ _ e7, e8, small_sz (by show (List.map V.int _).length + (List.map V.int _).length ≤ _; rw [ints_len, ints_len]; omega), fun p3 hp3 => ?_⟩
          rw [ints_app]
          have s8 := s6.trans (z7.trans z8)
          have g9 := Li.new (ns := cs.take at_ ++ cs.drop (at_ + 1)) (N15.same s8) hp3
          have l9 : (cs.take at_ ++ cs.drop (at_ + 1)).length ≤ 700 := by
            rw [List.length_append, List.length_take, List.length_drop]
            omega
          have z9 := same_upd (o := .lst ((cs.take at_ ++ cs.drop (at_ + 1)).map V.int)) hp3
          have s9 := s8.trans z9
          have g5'' := g5'.same (z7.trans (z8.trans z9))
          have g6' := g6.same (z7.trans (z8.trans z9))
          generalize cs.take at_ ++ cs.drop (at_ + 1) = b3 at *
          generalize upd G8 p3 (.lst (b3.map V.int)) = G9 at *
          clear z7 z8 z9 e7 e8 s6 s8 g5' g6 hq7 hq8 hp3
          -- the fourth
          refine ⟨_, rfl, _, rfl, by show 1 ≤ sizeLine; decide, fun q10 hq10 => ?_⟩
          have e10 := upd_same (H := G9) (a := q10) (o := .lst [.int od])
          have z10 := same_upd (o := .lst [.int od]) hq10
          generalize upd G9 q10 (.lst [.int od]) = G10 at *
          refine ⟨cl, q10, _, _, rfl, rfl, ((C15.same s9).same z10).e, e10, small_sz (by show (List.map V.int _).length + 1 ≤ _; rw [ints_len]; omega), fun p4 hp4 => ?_⟩
          have eq4 : cs.map V.int ++ [V.int od] = (cs ++ [od]).map V.int := by rw [List.map_append]; rfl
          rw [eq4]
          have s10 := s9.trans z10
          have g11 := Li.new (ns := cs ++ [od]) (N15.same s10) hp4
          have l11 : (cs ++ [od]).length ≤ 700 := by
            rw [List.length_append]
            show _ + 1 ≤ _
            omega
          have z11 := same_upd (o := .lst ((cs ++ [od]).map V.int)) hp4
          generalize cs ++ [od] = b4 at *
          generalize upd G10 p4 (.lst (b4.map V.int)) = G11 at *
          refine ⟨by show 4 ≤ sizeLine; decide, fun p9 hp9 => ?_⟩
          have z12 := same_upd (o := .lst [.ref p1, .ref p2, .ref p3, .ref p4]) hp9
          have sA := (s10.trans z11).trans z12
          have zz := z10.trans (z11.trans z12)
          exact ⟨p9, p1, p2, p3, p4, b1, _, b3, b4, rfl, N15.same sA, Tabs.ext T15 sA, C15.same sA, upd_same, let ⟨_, e⟩ := (N15.same (s10.trans z11)).h1; (ne_of_none e hp9).symm, let ⟨_, e⟩ := (N15.same (s10.trans z11)).l1; (ne_of_none e hp9).symm, g5''.same zz, g6'.same zz, g9.same zz, g11.same z12, l5, by omega, l9, l11⟩
        clear N15 T15 C15
        rintro σ H16 ⟨p9, p1, p2, p3, p4, b1, b2, b3, b4, rfl, N16, T16, C16, e9, n9, m9, g1, g2, g3, g4, l1, l2, l3, l4⟩
        refine ⟨_, rfl, _, rfl, h, l, 4, rfl, N16, by decide, by decide, fun r H17 r0 r1 N17 b17 => ?_⟩
        obtain ⟨pb, bs, epb, gb, lb⟩ : ∃ pb bs, atI [V.ref p1, .ref p2, .ref p3, .ref p4] r = some (V.ref pb) ∧ Li h l H17 pb bs ∧ bs.length ≤ 700 := by
          have : r = ((0 : Nat) : Int) ∨ r = ((1 : Nat) : Int) ∨ r = ((2 : Nat) : Int) ∨ r = ((3 : Nat) : Int) := by omega
          rcases this with q | q | q | q
          · exact ⟨p1, b1, at_of q rfl, g1.but2 b17, l1⟩
          · exact ⟨p2, b2, at_of q rfl, g2.but2 b17, l2⟩
          · exact ⟨p3, b3, at_of q rfl, g3.but2 b17, l3⟩
          · exact ⟨p4, b4, at_of q rfl, g4.but2 b17, l4⟩
        have T17 := tabs_but2 T16 b17 N16
        have C17 := C16.but2 b17
        refine ⟨p9, _, _, _, rfl, rfl, SqL.of (b17 _ _ n9 m9 e9), epb, ?_⟩
        clear g1 g2 g3 g4 e9 N16 T16 C16 epb b17 l1 l2 l3 l4
        refine ⟨fun σ' H' => ∃ (pb : Addr) (bs : List Int), σ' = [some (.ref a), some (.ref h), some (.int (0 + (i0 : Int))), some (.ref rl), some (.ref lp), some (.ref cl), some (.int (0 + (i1 : Int))), some (.int (at_ : Nat)), some (.int od), some (.ref p9), some (.ref pb), x11, x12] ∧ NextAt H' h l ∧ Tabs [(Pt, qLam)] H' ∧ Li h l H' cl cs ∧ Li h l H' pb bs ∧ bs.length ≤ 700, ?_, ?_⟩
        · refine ⟨_, rfl, h, l, 2, rfl, N17, by decide, by decide, fun r H18 r0 r1 N18 b18 => ?_⟩
          have T18 := tabs_but2 T17 b18 N17
          have C18 := C17.but2 b18
          have gb18 := gb.but2 b18
          refine ⟨rfl, _, rfl, ?_⟩
          have la := ints_len bs
          by_cases c0 : r = 0
          · refine ifT (decide_eq_true (by rw [c0])) ⟨_, rfl, pb, _, rfl, .inl (SqL.of gb18.e), _, _, rfl, rfl, _, rfl, ?_⟩
            by_cases c1 : 2 < bs.length
            · refine ifT (decide_eq_true (by rw [la]; omega)) ⟨_, rfl, _, rfl, _, rfl, pb, _, rfl, SqL.of gb18.e, fun q1 hq1 => ?_⟩
              rw [cut_last, ← List.map_dropLast]
              have e1' := upd_same (H := H18) (a := q1) (o := .lst (bs.dropLast.map V.int))
              have z1 := same_upd (o := .lst (bs.dropLast.map V.int)) hq1
              generalize upd H18 q1 (.lst (bs.dropLast.map V.int)) = G1 at *
              refine ⟨_, rfl, _, rfl, _, rfl, pb, _, rfl, SqL.of (gb18.same z1).e, fun q2 hq2 => ?_⟩
              rw [cut_last, ← List.map_dropLast]
              have z2 := same_upd (o := .lst (bs.dropLast.map V.int)) hq2
              refine ⟨q2, bs.dropLast, rfl, SqL.of upd_same, ?_⟩
              generalize upd G1 q2 (.lst (bs.dropLast.map V.int)) = G2 at *
              refine ⟨by show 1 ≤ sizeLine; decide, fun q3 hq3 => ?_⟩
              have z3 := same_upd (o := .lst [.int (sumF bs.dropLast)]) hq3
              have ld : bs.dropLast.length ≤ 699 := by rw [List.length_dropLast]; omega
              refine ⟨q1, q3, _, _, rfl, rfl, (z2.trans z3) _ _ e1', upd_same, small_sz (by show (List.map V.int _).length + 1 ≤ _; rw [ints_len]; omega), fun p5 hp5 => ?_⟩
              have eq5 : bs.dropLast.map V.int ++ [V.int (sumF bs.dropLast)] = (bs.dropLast ++ [sumF bs.dropLast]).map V.int := by rw [List.map_append]; rfl
              rw [eq5]
              have s5 := z1.trans (z2.trans z3)
              have g5 := Li.new (ns := bs.dropLast ++ [sumF bs.dropLast]) (N18.same s5) hp5
              have s6 := s5.trans (same_upd (o := .lst ((bs.dropLast ++ [sumF bs.dropLast]).map V.int)) hp5)
              exact ⟨p5, _, rfl, N18.same s6, Tabs.ext T18 s6, C18.same s6, g5, by rw [List.length_append]; show _ + 1 ≤ _; omega⟩
            · exact ifF (decide_eq_false (by rw [la]; omega)) ⟨pb, bs, rfl, N18, T18, C18, gb18, lb⟩
          · exact ifF (decide_eq_false (by intro z; injection z; exact c0 (by assumption))) ⟨pb, bs, rfl, N18, T18, C18, gb18, lb⟩
        clear N17 T17 C17 gb lb
        rintro σ H18 ⟨pb, bs, rfl, N18, T18, C18, gb, lb⟩
        -- what comes out
        refine ⟨T18, fun fl H19 nfl y19 T19 lam => ⟨fl, rfl, _, _, _, _, _, lam, lamN_by (N := nLaw) (sc := defScope sLaw) (by decide +kernel), .inl ⟨rfl, fun _ _ _ _ _ => rfl⟩, fun _ _ _ _ _ _ => rfl, fun A' outer' s' H3 c' hr' => by exact pe_prop (pe_callR DX.ok (hr'.mono (by decide)) rfl DX.at_ DX.kp (passes_call (takes_of rfl rfl rfl rfl) fun _ _ _ _ h => h) (pa_cons (pv 10) pa_nil)) T.cl T.pr G.ok (hr'.mono (by decide)) G.b .nil pass0 rfl, ?_⟩⟩
        have N19 := N18.ext y19
        have C19 := C18.ext y19
        have gb19 := gb.ext y19
        refine ⟨_, rfl, pb, bs, rfl, gb19.e, by omega, fun ss2 he p H20 s20 pl => ?_, fun e he H20 d s20 hd => ?_⟩
        · obtain ⟨dx, tp, us, ep, etp, gp⟩ := id pl
          refine ⟨p, dx, _, rfl, ep, p, dx, _, _, rfl, ep, lk_self, by show 2 ≤ sizeLine; decide, fun q hq => ?_⟩
          have s21 := same_upd (o := .tup [.str "value", .ref tp]) hq
          have e21 := upd_same (H := H20) (a := q) (o := .tup [.str "value", .ref tp])
          generalize upd H20 q (.tup [.str "value", .ref tp]) = H21 at *
          refine ⟨_, rfl, pb, bs, rfl, ((gb19.same s20).same s21).e, by omega, fun q2 H22 s22 ro => ?_⟩
          rcases ro with ⟨e, he', _⟩ | ⟨ss3, t, ws3, he', eq2, et, g3⟩
          · rw [he] at he'
            cases he'
          rw [he] at he'
          injection he' with he'
          subst he'
          have sA := s20.trans (s21.trans s22)
          refine ⟨.ref q, .ref q2, rfl, .inr ⟨q, q2, _, _, rfl, rfl, by show 2 ≤ 100000; decide, .cons (smd_str 4) (.cons (.inr ⟨tp, t, us, ws3, rfl, rfl, ?_, smd_steps (gp.same (s21.trans s22)) g3, .inr ⟨TupK.lock (etp.same (s21.trans s22)), TupK.of et⟩⟩) .nil), .inr ⟨TupK.of (s22 _ _ e21), TupK.of eq2⟩⟩, fun H23 s23 => ⟨_, rfl, iteF ?_⟩⟩
          · rw [gp.length]
            exact Nat.le_trans (read_len he) (by decide)
          · have sB := sA.trans s23
            exact ⟨_, _, _, _, _, rfl, N19.same sB, Tabs.ext T19 sB, C19.same sB⟩
        · refine ⟨e1, "code", [.str "code", .int (e : Nat)], rfl, KN, fun dd z => by cases z; exact ⟨_, upd_same⟩, .inr (.inr (.inl ⟨by decide +kernel, by decide +kernel, by decide +kernel, d, _, _, rfl, upd_same, lkZ, rfl⟩)), fun q H21 s21 eq => ?_⟩
          have s21' := s20.trans ((same_upd (o := .xd [("offset", .int (e : Nat))]) hd).trans s21)
          refine ⟨_, rfl, pb, bs, rfl, (gb19.same s21').e, by omega, fun q2 H22 s22 ro => ?_⟩
          rcases ro with ⟨e', he', eq2⟩ | ⟨ss3, t, ws3, he', _⟩
          rotate_left
          · rw [he] at he'
            cases he'
          rw [he] at he'
          injection he' with he'
          subst he'
          have sA := s21'.trans s22
          refine ⟨.ref q, .ref q2, rfl, .inr ⟨q, q2, _, _, rfl, rfl, by show 2 ≤ 100000; decide, .cons (smd_str 4) (.cons (smd_int 4) .nil), .inr ⟨TupK.of (s22 _ _ eq), TupK.of eq2⟩⟩, fun H23 s23 => ⟨_, rfl, iteF ?_⟩⟩
          have sB := sA.trans s23
          exact ⟨_, _, _, _, _, rfl, N19.same sB, Tabs.ext T19 sB, C19.same sB⟩
      · rintro σ H15 ⟨x6, x7, x8, x9, x10, rfl, N15, T15, C15⟩
        exact ⟨_, _, _, _, _, _, _, _, _, _, _, rfl, N15, T15⟩
    · rintro σ H2 ⟨x2, x3, x4, x5, x6, x7, x8, x9, x10, x11, x12, rfl, N2, T2⟩
      refine ⟨by show 3 ≤ sizeLine; decide, fun q1 hq1 => ⟨by show 1 ≤ sizeLine; decide, fun q2 hq2 => ⟨q2, 8, _, rfl, rfl, upd_same, by decide, by decide, by rw [sizeLine_eq]; show 1 * 8 ≤ 16777216; decide, fun q3 hq3 => ?_⟩⟩⟩
      have w1 := same_upd (o := .lst [.int 99, .int 1, .int 0]) hq1
      have w2 := same_upd (o := .lst [.int 255]) hq2
      have w3 := same_upd (o := .lst (List.replicate (8 : Int).toNat [V.int 255]).flatten) hq3
      have e1' := w3 _ _ (w2 _ _ (upd_same : upd H2 q1 (.lst [.int 99, .int 1, .int 0]) q1 = _))
      refine ⟨q1, q3, _, _, rfl, rfl, e1', upd_same, small_sz (by show 3 + 8 ≤ _; decide), fun q4 hq4 => ⟨by show 1 ≤ sizeLine; decide, fun q5 hq5 => ⟨q4, q5, _, _, rfl, rfl, same_upd hq5 _ _ upd_same, upd_same, small_sz (by show 11 + 1 ≤ _; decide), fun q6 hq6 => ?_⟩⟩⟩
      have w4 := same_upd (o := .lst ([V.int 99, .int 1, .int 0] ++ (List.replicate (8 : Int).toNat [V.int 255]).flatten)) hq4
      have w5 := same_upd (o := .lst [.int 13]) hq5
      have w6 := same_upd (o := .lst (([V.int 99, .int 1, .int 0] ++ (List.replicate (8 : Int).toNat [V.int 255]).flatten) ++ [.int 13])) hq6
      have eB := upd_same (H := upd (upd (upd (upd (upd H2 q1 (.lst [.int 99, .int 1, .int 0])) q2 (.lst [.int 255])) q3 (.lst (List.replicate (8 : Int).toNat [V.int 255]).flatten)) q4 (.lst ([V.int 99, .int 1, .int 0] ++ (List.replicate (8 : Int).toNat [V.int 255]).flatten))) q5 (.lst [.int 13])) (a := q6) (o := .lst (bigC.map V.int))
      have w := w1.trans (w2.trans (w3.trans (w4.trans (w5.trans w6))))
      have T3 := Tabs.ext T2 w
      change _ = _ at eB
      generalize hG : upd (upd (upd (upd (upd (upd H2 q1 (.lst [.int 99, .int 1, .int 0])) q2 (.lst [.int 255])) q3 (.lst (List.replicate (8 : Int).toNat [V.int 255]).flatten)) q4 (.lst ([V.int 99, .int 1, .int 0] ++ (List.replicate (8 : Int).toNat [V.int 255]).flatten))) q5 (.lst [.int 13])) q6 (.lst (([V.int 99, .int 1, .int 0] ++ (List.replicate (8 : Int).toNat [V.int 255]).flatten) ++ [.int 13])) = H3
      have eb3 : H3 q6 = some (.lst (bigC.map V.int)) := by rw [← hG]; exact upd_same
      rw [hG] at T3
      clear hG eB w w1 w2 w3 w4 w5 w6 e1' hq1 hq2 hq3 hq4 hq5 hq6 T2 N2
      -- the small one
      refine ⟨by show 12 ≤ sizeLine; decide, fun q7 hq7 => ?_⟩
      have w7 := same_upd (o := .lst (smallC.map V.int)) hq7
      have e7 := upd_same (H := H3) (a := q7) (o := .lst (smallC.map V.int))
      refine ⟨_, rfl, _, rfl, q7, smallC, rfl, SqL.of e7, by show 1 ≤ sizeLine; decide, fun q8 hq8 => ⟨q7, q8, _, _, rfl, rfl, same_upd hq8 _ _ e7, upd_same, small_sz (by show 12 + 1 ≤ _; decide), fun q9 hq9 => ?_⟩⟩
      have w8 := same_upd (o := .lst [.int (sumF smallC)]) hq8
      have w9 := same_upd (o := .lst (smallC.map V.int ++ [.int (sumF smallC)])) hq9
      have w79 := w7.trans (w8.trans w9)
      have e9 := upd_same (H := upd (upd H3 q7 (.lst (smallC.map V.int))) q8 (.lst [.int (sumF smallC)])) (a := q9) (o := .lst (smallC.map V.int ++ [.int (sumF smallC)]))
      refine ⟨q9, smallC ++ [sumF smallC], rfl, ?_, by show 13 ≤ 10000; decide, fun ss2 he p H12 s12 pl => ?_, fun e he => by rw [read_small] at he; cases he⟩
      · rw [List.map_append]
        exact e9
      rw [read_small] at he
      injection he with he
      subst he
      obtain ⟨dx, tp, us, ep, etp, gp⟩ := id pl
      have w12 := w79.trans s12
      refine ⟨p, dx, _, rfl, ep, p, dx, _, _, rfl, ep, lk_self, _, _, rfl, rfl, ⟨by decide, by decide, by decide⟩, by show 2 ≤ sizeLine; decide, fun t1 ht1 => ⟨by show 1 ≤ sizeLine; decide, fun t2 ht2 => ?_⟩⟩
      have x1 := same_upd (o := .tup [.str "red", .int ((10 : Int) ^ (18 : Int).toNat)]) ht1
      have x2 := same_upd (o := .tup [.ref t1]) ht2
      have xx := x1.trans x2
      have gT : Steps (upd (upd H12 t1 (.tup [.str "red", .int ((10 : Int) ^ (18 : Int).toNat)])) t2 (.tup [.ref t1])) [.ref t1] [.meet true 1000000000000000000] := .cons ⟨t1, rfl, x2 _ _ (by rw [upd_same]; show some (HO.tup [.str "red", .int ((10 : Int) ^ (18 : Int).toNat)]) = _; rw [e18]; rfl)⟩ .nil
      refine ⟨.tuple ([Stp.meet true 1000000000000000000].map stpD), .tuple ([Stp.meet true 1000000000000000000].map stpD), .tup (etp.same xx).sq (stpD_dp (gp.same xx)), .tup (SqT.of upd_same) (stpD_dp gT), stpT_shaped _, stpT_shaped _, _, rfl, ifF (by rw [stpT_eqv]; rfl) ?_⟩
      have wA := w12.trans xx
      have T13 := Tabs.ext T3 wA
      have e13 := wA _ _ eb3
      generalize upd (upd H12 t1 (.tup [.str "red", .int ((10 : Int) ^ (18 : Int).toNat)])) t2 (.tup [.ref t1]) = H13 at *
      clear gT wA xx x1 x2 w12 gp etp ep pl s12 w79 w9 w8 w7 e9 e7 hq7 hq8 hq9 ht1 ht2
      -- the big one
      refine ⟨T13, fun fl H19 nfl y19 T19 lam => ⟨fl, rfl, _, _, _, _, _, lam, lamN_by (N := nLaw) (sc := defScope sLaw) (by decide +kernel), .inl ⟨rfl, fun _ _ _ _ _ => rfl⟩, fun _ _ _ _ _ _ => rfl, fun A' outer' s' H3 c' hr' => by exact pe_callR DX.ok (hr'.mono (by decide)) rfl DX.at_ DX.kp (passes_call (takes_of rfl rfl rfl rfl) fun _ _ _ _ h => h) (pa_cons (pe_op op_cat (pv 11) (pe_lst (pa_cons (pe_callR D__law_sum.ok (hr'.mono (by decide)) rfl D__law_sum.at_ D__law_sum.kp pass0 (pa_cons (pv 11) pa_nil)) pa_nil))) pa_nil), ?_⟩⟩
      have e19 := extN_lst y19 e13
      refine ⟨_, rfl, _, rfl, q6, bigC, rfl, SqL.of e19, by show 1 ≤ sizeLine; decide, fun q8 hq8 => ⟨q6, q8, _, _, rfl, rfl, same_upd hq8 _ _ e19, upd_same, small_sz (by show 12 + 1 ≤ _; decide), fun q9 hq9 => ?_⟩⟩
      refine ⟨q9, bigC ++ [sumF bigC], rfl, ?_, by show 13 ≤ 10000; decide, (fun ss2 he => by rw [read_big] at he; cases he), fun e he H20 d s20 hd => ?_⟩
      · rw [List.map_append]
        exact upd_same
      rw [read_big] at he
      injection he with he
      subst he
      refine ⟨e1, "code", [.str "code", .int ((3 : Nat) : Int)], rfl, KN, fun dd z => by cases z; exact ⟨_, upd_same⟩, .inr (.inr (.inl ⟨by decide +kernel, by decide +kernel, by decide +kernel, d, _, _, rfl, upd_same, lkZ, rfl⟩)), fun q H21 s21 eq => ?_⟩
      refine ⟨by show 2 ≤ sizeLine; decide, fun t ht => ?_⟩
      have z2 := same_upd (o := .tup [.str "code", .int 3]) ht
      refine ⟨.tuple [.str "code", .int 3], .tuple [.str "code", .int 3], .tup (SqT.of (z2 _ _ eq)) (.cons (.str _) (.cons (.int _) .nil)), .tup (SqT.of upd_same) (.cons (.str _) (.cons (.int _) .nil)), by decide +kernel, by decide +kernel, ?_⟩
      have e3 : PyData.eqv (.tuple [.str "code", .int 3]) (.tuple [.str "code", .int 3]) = true := by decide +kernel
      rw [e3]
      exact k _
end
end Cc

namespace Cc
open PySem PySem.Spec PyProof.Rows L2
open LamX
theorem dn_mk {P : Program} {w : World} {K : PySem.W.Frag} {mg : Str → Option Value} {base : Heap} {k : Nat} {x : Str} {f : Addr} {fd : FuncData} {ps : List Str} {sp : Sp} (a : mg x = some (.ref f)) (kp : PySem.W.keepIn K (.ref f) = true) (F : FnOk P w K mg base CX0 k f fd ps sp) (b : Binds K fd ps []) :
    Dn P w K mg base k x f sp := ⟨a, kp, (F.raw b .nil).imp fun vs H Q E h => by rw [List.append_nil]; exact h⟩
theorem dnx_mk {P : Program} {w : World} {K : PySem.W.Frag} {mg : Str → Option Value} {base : Heap} {k : Nat} {x : Str} {f : Addr} {fd : FuncData} {ps : List Str} {sp : Sp} (a : mg x = some (.ref f)) (kp : PySem.W.keepIn K (.ref f) = true) (F : FnOk P w K mg base (L2.CX P w) k f fd ps sp) (b : Binds K fd ps []) :
    DnX P w K mg base k x f sp := ⟨a, kp, (F.raw b .nil).imp fun vs H Q E h => by rw [List.append_nil]; exact h⟩
theorem all_mk {P : Program} {w : World} {K : PySem.W.Frag} {h : Heap} {mg : Str → Option Value} {fa C TU pS f_is_whole f_is_number f_is_step f__law_plan f__law_mix f__law_next f__law_steps f__law_alike f_groups_of f_checksum_of f__law_sum f_encode_plan f__law_code f__law_need f__law_read f_law cL PT f__law_outcome f_decode_plan fminit fmjoined EDecodeError BDecodeError fIDecodeError ccDecodeError cdaDecodeError NDecodeError fmst : Addr} (X : K.In h) (G : h.Ns mainGlobals mg) (hfa : mg "law" = some (.ref fa))
    {od_is_whole an_is_whole od_is_number an_is_number od_is_step an_is_step od__law_plan an__law_plan od__law_mix an__law_mix od__law_next an__law_next od__law_steps an__law_steps od__law_alike an__law_alike od_groups_of an_groups_of od_checksum_of an_checksum_of od__law_sum an__law_sum od_encode_plan an_encode_plan od__law_code an__law_code od__law_need an__law_need od__law_read an__law_read od_law an_law dC od__law_outcome an__law_outcome od_decode_plan an_decode_plan odminit anminit odmjoined anmjoined odDecodeError anDecodeError cldDecodeError cddDecodeError ddDecodeError odmst anmst dT : Option Addr} {sl_is_whole sl_is_number sl_is_step sl__law_plan sl__law_mix sl__law_next sl__law_steps sl__law_alike sl_groups_of sl_checksum_of sl__law_sum sl_encode_plan sl__law_code sl__law_need sl__law_read sl_law slC sl__law_outcome sl_decode_plan slminit slmjoined slDecodeError cslDecodeError ccsDecodeError slmst slT : Array (Option Value)} {oc_is_whole kV_is_whole dc_is_whole pm_is_whole cd_is_whole ct_is_whole oc_is_number kV_is_number dc_is_number pm_is_number cd_is_number ct_is_number oc_is_step kV_is_step dc_is_step pm_is_step cd_is_step ct_is_step oc__law_plan kV__law_plan dc__law_plan pm__law_plan cd__law_plan ct__law_plan oc__law_mix kV__law_mix dc__law_mix pm__law_mix cd__law_mix ct__law_mix oc__law_next kV__law_next dc__law_next pm__law_next cd__law_next ct__law_next oc__law_steps kV__law_steps dc__law_steps pm__law_steps cd__law_steps ct__law_steps oc__law_alike kV__law_alike dc__law_alike pm__law_alike cd__law_alike ct__law_alike oc_groups_of kV_groups_of dc_groups_of pm_groups_of cd_groups_of ct_groups_of oc_checksum_of kV_checksum_of dc_checksum_of pm_checksum_of cd_checksum_of ct_checksum_of oc__law_sum kV__law_sum dc__law_sum pm__law_sum cd__law_sum ct__law_sum oc_encode_plan kV_encode_plan dc_encode_plan pm_encode_plan cd_encode_plan ct_encode_plan oc__law_code kV__law_code dc__law_code pm__law_code cd__law_code ct__law_code oc__law_need kV__law_need dc__law_need pm__law_need cd__law_need ct__law_need oc__law_read kV__law_read dc__law_read pm__law_read cd__law_read ct__law_read oc_law kV_law dc_law pm_law ct_law oC oc__law_outcome kV__law_outcome dc__law_outcome pm__law_outcome cd__law_outcome ct__law_outcome oc_decode_plan kV_decode_plan dc_decode_plan pm_decode_plan cd_decode_plan ct_decode_plan ocminit kVminit dcminit pmminit cdminit ctminit ocmjoined kVmjoined dcmjoined pmmjoined cdmjoined ctmjoined ocDecodeError kVDecodeError dcDecodeError pmDecodeError ctDecodeError clDecodeError cclDecodeError ocmst kVmst dcmst pmmst cdmst ctmst : Value} {rs : List Value} {t1 t2 t3 t4 t_GROUP_SIZE t_FIRST_NUMBER t_MAX_NUMBER : Tok} {nT : Nat} {vC  : Array Value} {nmDecodeError qDecodeError t1DecodeError fileDecodeError : Str} {bsDecodeError subDecodeError : List Value} {snDecodeError : List Str} {abDecodeError : Bool} {colDecodeError : Option Bool} {m0DecodeError m1DecodeError m2DecodeError m3DecodeError m5DecodeError : Option Value} {vsDecodeError : Array Value} {tkDecodeError : Tok} {p1DecodeError p2DecodeError a1DecodeError a2DecodeError a3DecodeError a4DecodeError a5DecodeError a6DecodeError a8DecodeError a9DecodeError a10DecodeError b1DecodeError b2DecodeError b3DecodeError b4DecodeError : Pos} {CR fri ftk ftn fts SW e9DaybookError e9InvalidBooking e9InvalidNumber e9InvalidOperation e9InvalidPlan e9InvalidText e9NotEnough e9TooFewChairs CE : Addr} {odri anri odtk antk odtn antn odts ants : Option Addr} {slri sltk sltn slts slSW : Array (Option Value)} {ocri kVri dcri pmri cdri ctri octk kVtk dctk pmtk cdtk cttk octn kVtn dctn pmtn cdtn cttn octs kVts dcts pmts cdts ctts : Value} {w1 w2 w3 : Tok} {nSW : Nat}
    (a_is_whole : PySem.W.nsIn K mainGlobals "is_whole" = some (some (.ref f_is_whole)))
    (l_is_whole : K.lookup f_is_whole = some ⟨oc_is_whole, od_is_whole, .func (PySem.W.fnOf "is_whole" "is_whole" (defArgs sIsWhole) (defBody sIsWhole) (defScope sIsWhole) .none kV_is_whole dc_is_whole pm_is_whole an_is_whole cd_is_whole ct_is_whole), sl_is_whole⟩)
    (c_is_whole : PySem.W.codeIn K cd_is_whole "is_whole" = true)
    (k_is_whole : PySem.W.keepIn K (.ref f_is_whole) = true)
    (a_is_number : PySem.W.nsIn K mainGlobals "is_number" = some (some (.ref f_is_number)))
    (l_is_number : K.lookup f_is_number = some ⟨oc_is_number, od_is_number, .func (PySem.W.fnOf "is_number" "is_number" (defArgs sIsNum) (defBody sIsNum) (defScope sIsNum) .none kV_is_number dc_is_number pm_is_number an_is_number cd_is_number ct_is_number), sl_is_number⟩)
    (c_is_number : PySem.W.codeIn K cd_is_number "is_number" = true)
    (k_is_number : PySem.W.keepIn K (.ref f_is_number) = true)
    (a_is_step : PySem.W.nsIn K mainGlobals "is_step" = some (some (.ref f_is_step)))
    (l_is_step : K.lookup f_is_step = some ⟨oc_is_step, od_is_step, .func (PySem.W.fnOf "is_step" "is_step" (defArgs sIsStep) (defBody sIsStep) (defScope sIsStep) .none kV_is_step dc_is_step pm_is_step an_is_step cd_is_step ct_is_step), sl_is_step⟩)
    (c_is_step : PySem.W.codeIn K cd_is_step "is_step" = true)
    (k_is_step : PySem.W.keepIn K (.ref f_is_step) = true)
    (a__law_plan : PySem.W.nsIn K mainGlobals "_law_plan" = some (some (.ref f__law_plan)))
    (l__law_plan : K.lookup f__law_plan = some ⟨oc__law_plan, od__law_plan, .func (PySem.W.fnOf "_law_plan" "_law_plan" (defArgs s__law_plan) (defBody s__law_plan) (defScope s__law_plan) .none kV__law_plan dc__law_plan pm__law_plan an__law_plan cd__law_plan ct__law_plan), sl__law_plan⟩)
    (c__law_plan : PySem.W.codeIn K cd__law_plan "_law_plan" = true)
    (k__law_plan : PySem.W.keepIn K (.ref f__law_plan) = true)
    (a__law_mix : PySem.W.nsIn K mainGlobals "_law_mix" = some (some (.ref f__law_mix)))
    (l__law_mix : K.lookup f__law_mix = some ⟨oc__law_mix, od__law_mix, .func (PySem.W.fnOf "_law_mix" "_law_mix" (defArgs s__law_mix) (defBody s__law_mix) (defScope s__law_mix) .none kV__law_mix dc__law_mix pm__law_mix an__law_mix cd__law_mix ct__law_mix), sl__law_mix⟩)
    (c__law_mix : PySem.W.codeIn K cd__law_mix "_law_mix" = true)
    (k__law_mix : PySem.W.keepIn K (.ref f__law_mix) = true)
    (a__law_next : PySem.W.nsIn K mainGlobals "_law_next" = some (some (.ref f__law_next)))
    (l__law_next : K.lookup f__law_next = some ⟨oc__law_next, od__law_next, .func (PySem.W.fnOf "_law_next" "_law_next" (defArgs s__law_next) (defBody s__law_next) (defScope s__law_next) .none kV__law_next dc__law_next pm__law_next an__law_next cd__law_next ct__law_next), sl__law_next⟩)
    (c__law_next : PySem.W.codeIn K cd__law_next "_law_next" = true)
    (k__law_next : PySem.W.keepIn K (.ref f__law_next) = true)
    (a__law_steps : PySem.W.nsIn K mainGlobals "_law_steps" = some (some (.ref f__law_steps)))
    (l__law_steps : K.lookup f__law_steps = some ⟨oc__law_steps, od__law_steps, .func (PySem.W.fnOf "_law_steps" "_law_steps" (defArgs s__law_steps) (defBody s__law_steps) (defScope s__law_steps) .none kV__law_steps dc__law_steps pm__law_steps an__law_steps cd__law_steps ct__law_steps), sl__law_steps⟩)
    (c__law_steps : PySem.W.codeIn K cd__law_steps "_law_steps" = true)
    (k__law_steps : PySem.W.keepIn K (.ref f__law_steps) = true)
    (a__law_alike : PySem.W.nsIn K mainGlobals "_law_alike" = some (some (.ref f__law_alike)))
    (l__law_alike : K.lookup f__law_alike = some ⟨oc__law_alike, od__law_alike, .func (PySem.W.fnOf "_law_alike" "_law_alike" (defArgs sAlike) (defBody sAlike) (defScope sAlike) .none kV__law_alike dc__law_alike pm__law_alike an__law_alike cd__law_alike ct__law_alike), sl__law_alike⟩)
    (c__law_alike : PySem.W.codeIn K cd__law_alike "_law_alike" = true)
    (k__law_alike : PySem.W.keepIn K (.ref f__law_alike) = true)
    (a_groups_of : PySem.W.nsIn K mainGlobals "groups_of" = some (some (.ref f_groups_of)))
    (l_groups_of : K.lookup f_groups_of = some ⟨oc_groups_of, od_groups_of, .func (PySem.W.fnOf "groups_of" "groups_of" (defArgs s_groups_of) (defBody s_groups_of) (defScope s_groups_of) .none kV_groups_of dc_groups_of pm_groups_of an_groups_of cd_groups_of ct_groups_of), sl_groups_of⟩)
    (c_groups_of : PySem.W.codeIn K cd_groups_of "groups_of" = true)
    (k_groups_of : PySem.W.keepIn K (.ref f_groups_of) = true)
    (a_checksum_of : PySem.W.nsIn K mainGlobals "checksum_of" = some (some (.ref f_checksum_of)))
    (l_checksum_of : K.lookup f_checksum_of = some ⟨oc_checksum_of, od_checksum_of, .func (PySem.W.fnOf "checksum_of" "checksum_of" (defArgs s_checksum_of) (defBody s_checksum_of) (defScope s_checksum_of) .none kV_checksum_of dc_checksum_of pm_checksum_of an_checksum_of cd_checksum_of ct_checksum_of), sl_checksum_of⟩)
    (c_checksum_of : PySem.W.codeIn K cd_checksum_of "checksum_of" = true)
    (k_checksum_of : PySem.W.keepIn K (.ref f_checksum_of) = true)
    (a__law_sum : PySem.W.nsIn K mainGlobals "_law_sum" = some (some (.ref f__law_sum)))
    (l__law_sum : K.lookup f__law_sum = some ⟨oc__law_sum, od__law_sum, .func (PySem.W.fnOf "_law_sum" "_law_sum" (defArgs s__law_sum) (defBody s__law_sum) (defScope s__law_sum) .none kV__law_sum dc__law_sum pm__law_sum an__law_sum cd__law_sum ct__law_sum), sl__law_sum⟩)
    (c__law_sum : PySem.W.codeIn K cd__law_sum "_law_sum" = true)
    (k__law_sum : PySem.W.keepIn K (.ref f__law_sum) = true)
    (a_encode_plan : PySem.W.nsIn K mainGlobals "encode_plan" = some (some (.ref f_encode_plan)))
    (l_encode_plan : K.lookup f_encode_plan = some ⟨oc_encode_plan, od_encode_plan, .func (PySem.W.fnOf "encode_plan" "encode_plan" (defArgs s_encode_plan) (defBody s_encode_plan) (defScope s_encode_plan) .none kV_encode_plan dc_encode_plan pm_encode_plan an_encode_plan cd_encode_plan ct_encode_plan), sl_encode_plan⟩)
    (c_encode_plan : PySem.W.codeIn K cd_encode_plan "encode_plan" = true)
    (k_encode_plan : PySem.W.keepIn K (.ref f_encode_plan) = true)
    (a__law_code : PySem.W.nsIn K mainGlobals "_law_code" = some (some (.ref f__law_code)))
    (l__law_code : K.lookup f__law_code = some ⟨oc__law_code, od__law_code, .func (PySem.W.fnOf "_law_code" "_law_code" (defArgs s__law_code) (defBody s__law_code) (defScope s__law_code) .none kV__law_code dc__law_code pm__law_code an__law_code cd__law_code ct__law_code), sl__law_code⟩)
    (c__law_code : PySem.W.codeIn K cd__law_code "_law_code" = true)
    (k__law_code : PySem.W.keepIn K (.ref f__law_code) = true)
    (a__law_need : PySem.W.nsIn K mainGlobals "_law_need" = some (some (.ref f__law_need)))
    (l__law_need : K.lookup f__law_need = some ⟨oc__law_need, od__law_need, .func (PySem.W.fnOf "_law_need" "_law_need" (defArgs s__law_need) (defBody s__law_need) (defScope s__law_need) .none kV__law_need dc__law_need pm__law_need an__law_need cd__law_need ct__law_need), sl__law_need⟩)
    (c__law_need : PySem.W.codeIn K cd__law_need "_law_need" = true)
    (k__law_need : PySem.W.keepIn K (.ref f__law_need) = true)
    (a__law_read : PySem.W.nsIn K mainGlobals "_law_read" = some (some (.ref f__law_read)))
    (l__law_read : K.lookup f__law_read = some ⟨oc__law_read, od__law_read, .func (PySem.W.fnOf "_law_read" "_law_read" (defArgs s__law_read) (defBody s__law_read) (defScope s__law_read) .none kV__law_read dc__law_read pm__law_read an__law_read cd__law_read ct__law_read), sl__law_read⟩)
    (c__law_read : PySem.W.codeIn K cd__law_read "_law_read" = true)
    (k__law_read : PySem.W.keepIn K (.ref f__law_read) = true)
    (a_law : PySem.W.nsIn K mainGlobals "law" = some (some (.ref f_law)))
    (l_law : K.lookup f_law = some ⟨oc_law, od_law, .func (PySem.W.fnOf "law" "law" (defArgs sLaw) (defBody sLaw) (defScope sLaw) .none kV_law dc_law pm_law an_law (.ref cL) ct_law), sl_law⟩)
    (c_law : PySem.W.codeIn K (.ref cL) "law" = true)
    (lC : K.lookup cL = some ⟨oC, dC, .fields vC, slC⟩)
    (v11 : vC[11]? = some (.ref PT))
    (tN : K.lookup PT = none)
    (k_law : PySem.W.keepIn K (.ref f_law) = true)
    (a__law_outcome : PySem.W.nsIn K mainGlobals "_law_outcome" = some (some (.ref f__law_outcome)))
    (l__law_outcome : K.lookup f__law_outcome = some ⟨oc__law_outcome, od__law_outcome, .func (PySem.W.fnOf "_law_outcome" "_law_outcome" (defArgs sOutcome) (defBody sOutcome) (defScope sOutcome) .none kV__law_outcome dc__law_outcome pm__law_outcome an__law_outcome cd__law_outcome ct__law_outcome), sl__law_outcome⟩)
    (c__law_outcome : PySem.W.codeIn K cd__law_outcome "_law_outcome" = true)
    (k__law_outcome : PySem.W.keepIn K (.ref f__law_outcome) = true)
    (a_decode_plan : PySem.W.nsIn K mainGlobals "decode_plan" = some (some (.ref f_decode_plan)))
    (l_decode_plan : K.lookup f_decode_plan = some ⟨oc_decode_plan, od_decode_plan, .func (PySem.W.fnOf "decode_plan" "decode_plan" (defArgs s_decode_plan) (defBody s_decode_plan) (defScope s_decode_plan) .none kV_decode_plan dc_decode_plan pm_decode_plan an_decode_plan cd_decode_plan ct_decode_plan), sl_decode_plan⟩)
    (c_decode_plan : PySem.W.codeIn K cd_decode_plan "decode_plan" = true)
    (k_decode_plan : PySem.W.keepIn K (.ref f_decode_plan) = true)
    (aC : PySem.W.nsIn K mainGlobals "Plan" = some (some (.ref C)))
    (aminit : PySem.W.findIn K (.ref C) "__init__" = some (some (.ref fminit)))
    (iminit : PySem.W.isFn K (.ref fminit) = true)
    (lminit : K.lookup fminit = some ⟨ocminit, odminit, .func (PySem.W.fnOf "__init__" "Plan.__init__" (defArgs sInit) (defBody sInit) (defScope sInit) .none kVminit dcminit pmminit anminit cdminit ctminit), slminit⟩)
    (cminit : PySem.W.codeIn K cdminit "Plan.__init__" = true)
    (kminit : PySem.W.keepIn K (.ref fminit) = true)
    (amjoined : PySem.W.findIn K (.ref C) "joined" = some (some (.ref fmjoined)))
    (imjoined : PySem.W.isFn K (.ref fmjoined) = true)
    (lmjoined : K.lookup fmjoined = some ⟨ocmjoined, odmjoined, .func (PySem.W.fnOf "joined" "Plan.joined" (defArgs sJoined) (defBody sJoined) (defScope sJoined) .none kVmjoined dcmjoined pmmjoined anmjoined cdmjoined ctmjoined), slmjoined⟩)
    (cmjoined : PySem.W.codeIn K cdmjoined "Plan.joined" = true)
    (kmjoined : PySem.W.keepIn K (.ref fmjoined) = true)
    (gDecodeError : PySem.W.nsIn K mainGlobals "DecodeError" = some (some (.ref EDecodeError)))
    (xDecodeError : K.lookup EDecodeError = some (excClassObj nmDecodeError qDecodeError EDecodeError NDecodeError bsDecodeError [.ref BDecodeError, .type "ValueError", .type "Exception", .type "BaseException", .type "object"] true snDecodeError subDecodeError abDecodeError colDecodeError ddDecodeError m0DecodeError m1DecodeError m2DecodeError m3DecodeError m5DecodeError "ValueError.__new__"))
    (kDecodeError : PySem.W.keepIn K (.ref EDecodeError) = true)
    (saDecodeError : PySem.W.findIn K (.ref EDecodeError) "__setattr__" = some (some (.builtin "object.__setattr__")))
    (gaDecodeError : PySem.W.findIn K (.ref EDecodeError) "__getattribute__" = some (some (.builtin "BaseException.__getattribute__")))
    (ggDecodeError : PySem.W.findIn K (.ref EDecodeError) "__getattr__" = some none)
    (nbDecodeError : PySem.W.findIn K (.ref EDecodeError) "offset" = some none)
    (iDecodeError : PySem.W.findIn K (.ref EDecodeError) "__init__" = some (some (.ref fIDecodeError)))
    (tfDecodeError : PySem.W.typeIn K (.ref fIDecodeError) = some (.type "function"))
    (bDecodeError : PySem.W.subIn K (.ref EDecodeError) (.type "BaseException") = some true)
    (tDecodeError : PySem.W.typeIn K (.ref EDecodeError) = some (.type "type"))
    (hdDecodeError : PySem.W.hasDictIn K EDecodeError = true)
    (icDecodeError : PySem.W.isClsIn K EDecodeError = true)
    (sDecodeError : PySem.W.subIn K (.ref EDecodeError) (.ref EDecodeError) = some true)
    (svDecodeError : PySem.W.subIn K (.ref EDecodeError) (.type "ValueError") = some true)
    (suDecodeError : PySem.W.ks_superIn K EDecodeError EDecodeError "__init__" = some (some (.builtin "ValueError.__init__")))
    (opDecodeError : PySem.W.nsIn K cStatics "thirdparty.any" = some none)
    (zsDecodeError : PySem.W.nsIn K mainGlobals "super" = some none)
    (htDecodeError : (P.main.scope.names.lookup ("super" : Str)).isSome = false)
    (lDecodeError : K.lookup fIDecodeError = some ⟨ocDecodeError, odDecodeError, .func (PySem.W.ksFn "__init__" "DecodeError.__init__" (PySem.EoX.iA p1DecodeError p2DecodeError) (PySem.EoX.iB t1DecodeError a1DecodeError a2DecodeError a3DecodeError a4DecodeError a5DecodeError a6DecodeError a8DecodeError a9DecodeError a10DecodeError b1DecodeError b2DecodeError b3DecodeError b4DecodeError) PySem.EoX.iS .none kVDecodeError dcDecodeError pmDecodeError anDecodeError (.ref cdaDecodeError) ctDecodeError ccDecodeError), slDecodeError⟩)
    (cDecodeError : PySem.W.codeIn K (.ref cdaDecodeError) "DecodeError.__init__" = true)
    (lcDecodeError : K.lookup ccDecodeError = some ⟨clDecodeError, cldDecodeError, .cell (some (.ref EDecodeError)), cslDecodeError⟩)
    (ldDecodeError : K.lookup cdaDecodeError = some ⟨cclDecodeError, cddDecodeError, .fields vsDecodeError, ccsDecodeError⟩)
    (vfDecodeError : vsDecodeError[2]? = some (.str fileDecodeError tkDecodeError))
    (fiDecodeError : ((P.main.file : Str) == fileDecodeError) = true)
    (u1DecodeError : t1DecodeError.length ≤ 1000)
    (lnDecodeError : (a3DecodeError.endLine == a9DecodeError.line) = true)
    (aR : PySem.W.nsIn K mainGlobals "CodeReader" = some (some (.ref CR)))
    (pgR : PySem.W.plainGet K CR Str.empty = true)
    (hdR : PySem.W.hasDictIn K CR = true)
    (poR : PySem.W.plainOver K CR = true)
    (saR : PySem.W.findIn K (.ref CR) "__setattr__" = some (some (.builtin "object.__setattr__")))
    (mkR : PySem.W.makesIn K CR = true)
    (kcR : PySem.W.keepIn K (.ref CR) = true)
    (nR0 : PySem.W.findIn K (.ref CR) "code" = some none)
    (nR1 : PySem.W.findIn K (.ref CR) "offset" = some none)
    (ari : PySem.W.findIn K (.ref CR) "__init__" = some (some (.ref fri)))
    (iri : PySem.W.isFn K (.ref fri) = true)
    (lri : K.lookup fri = some ⟨ocri, odri, .func (PySem.W.fnOf "__init__" "CodeReader.__init__" (defArgs s_CodeReader___init__) (defBody s_CodeReader___init__) (defScope s_CodeReader___init__) .none kVri dcri pmri anri cdri ctri), slri⟩)
    (cri : PySem.W.codeIn K cdri "CodeReader.__init__" = true)
    (kri : PySem.W.keepIn K (.ref fri) = true)
    (atk : PySem.W.findIn K (.ref CR) "take" = some (some (.ref ftk)))
    (itk : PySem.W.isFn K (.ref ftk) = true)
    (ltk : K.lookup ftk = some ⟨octk, odtk, .func (PySem.W.fnOf "take" "CodeReader.take" (defArgs s_CodeReader_take) (defBody s_CodeReader_take) (defScope s_CodeReader_take) .none kVtk dctk pmtk antk cdtk cttk), sltk⟩)
    (ctk : PySem.W.codeIn K cdtk "CodeReader.take" = true)
    (ktk : PySem.W.keepIn K (.ref ftk) = true)
    (atn : PySem.W.findIn K (.ref CR) "take_need" = some (some (.ref ftn)))
    (itn : PySem.W.isFn K (.ref ftn) = true)
    (ltn : K.lookup ftn = some ⟨octn, odtn, .func (PySem.W.fnOf "take_need" "CodeReader.take_need" (defArgs s_CodeReader_take_need) (defBody s_CodeReader_take_need) (defScope s_CodeReader_take_need) .none kVtn dctn pmtn antn cdtn cttn), sltn⟩)
    (ctn : PySem.W.codeIn K cdtn "CodeReader.take_need" = true)
    (ktn : PySem.W.keepIn K (.ref ftn) = true)
    (ats : PySem.W.findIn K (.ref CR) "take_step" = some (some (.ref fts)))
    (its : PySem.W.isFn K (.ref fts) = true)
    (lts : K.lookup fts = some ⟨octs, odts, .func (PySem.W.fnOf "take_step" "CodeReader.take_step" (defArgs s_CodeReader_take_step) (defBody s_CodeReader_take_step) (defScope s_CodeReader_take_step) .none kVts dcts pmts ants cdts ctts), slts⟩)
    (cts : PySem.W.codeIn K cdts "CodeReader.take_step" = true)
    (kts : PySem.W.keepIn K (.ref fts) = true)
    (aSW : PySem.W.nsIn K mainGlobals "STEP_WORDS" = some (some (.ref SW)))
    (lSW : K.lookup SW = some ⟨.type "tuple", none, .seq #[.str "red" w1, .str "blue" w2, .str "turn" w3] nSW, slSW⟩)
    (g9DaybookError : PySem.W.nsIn K mainGlobals "DaybookError" = some (some (.ref e9DaybookError)))
    (i9DaybookError : PySem.W.isClsIn K e9DaybookError = true)
    (t9DaybookError : PySem.W.typeIn K (.ref e9DaybookError) = some (.type "type"))
    (g9InvalidBooking : PySem.W.nsIn K mainGlobals "InvalidBooking" = some (some (.ref e9InvalidBooking)))
    (i9InvalidBooking : PySem.W.isClsIn K e9InvalidBooking = true)
    (t9InvalidBooking : PySem.W.typeIn K (.ref e9InvalidBooking) = some (.type "type"))
    (g9InvalidNumber : PySem.W.nsIn K mainGlobals "InvalidNumber" = some (some (.ref e9InvalidNumber)))
    (i9InvalidNumber : PySem.W.isClsIn K e9InvalidNumber = true)
    (t9InvalidNumber : PySem.W.typeIn K (.ref e9InvalidNumber) = some (.type "type"))
    (g9InvalidOperation : PySem.W.nsIn K mainGlobals "InvalidOperation" = some (some (.ref e9InvalidOperation)))
    (i9InvalidOperation : PySem.W.isClsIn K e9InvalidOperation = true)
    (t9InvalidOperation : PySem.W.typeIn K (.ref e9InvalidOperation) = some (.type "type"))
    (g9InvalidPlan : PySem.W.nsIn K mainGlobals "InvalidPlan" = some (some (.ref e9InvalidPlan)))
    (i9InvalidPlan : PySem.W.isClsIn K e9InvalidPlan = true)
    (t9InvalidPlan : PySem.W.typeIn K (.ref e9InvalidPlan) = some (.type "type"))
    (g9InvalidText : PySem.W.nsIn K mainGlobals "InvalidText" = some (some (.ref e9InvalidText)))
    (i9InvalidText : PySem.W.isClsIn K e9InvalidText = true)
    (t9InvalidText : PySem.W.typeIn K (.ref e9InvalidText) = some (.type "type"))
    (g9NotEnough : PySem.W.nsIn K mainGlobals "NotEnough" = some (some (.ref e9NotEnough)))
    (i9NotEnough : PySem.W.isClsIn K e9NotEnough = true)
    (t9NotEnough : PySem.W.typeIn K (.ref e9NotEnough) = some (.type "type"))
    (g9TooFewChairs : PySem.W.nsIn K mainGlobals "TooFewChairs" = some (some (.ref e9TooFewChairs)))
    (i9TooFewChairs : PySem.W.isClsIn K e9TooFewChairs = true)
    (t9TooFewChairs : PySem.W.typeIn K (.ref e9TooFewChairs) = some (.type "type"))
    (gCE : PySem.W.nsIn K mainGlobals "ChairError" = some (some (.ref CE)))
    (bCE : PySem.W.subIn K (.ref CE) (.type "BaseException") = some true)
    (dCE : PySem.W.hasDictIn K CE = true)
    (tCE : PySem.W.typeIn K (.ref CE) = some (.type "type"))
    (x5N : PySem.W.specialIn K (.builtin "object.__class__") "__get__" = some (some (.builtin "getset_descriptor.__get__")))
    (x6N : PySem.W.takesIn K (.builtin "object.__class__") = some true)
    (es_1_0 : PySem.W.subIn K (.ref EDecodeError) (.ref e9DaybookError) = some false)
    (es_1_2 : PySem.W.subIn K (.ref EDecodeError) (.ref e9InvalidBooking) = some false)
    (es_1_3 : PySem.W.subIn K (.ref EDecodeError) (.ref e9InvalidNumber) = some false)
    (es_1_4 : PySem.W.subIn K (.ref EDecodeError) (.ref e9InvalidOperation) = some false)
    (es_1_5 : PySem.W.subIn K (.ref EDecodeError) (.ref e9InvalidPlan) = some false)
    (es_1_6 : PySem.W.subIn K (.ref EDecodeError) (.ref e9InvalidText) = some false)
    (es_1_7 : PySem.W.subIn K (.ref EDecodeError) (.ref e9NotEnough) = some false)
    (es_1_8 : PySem.W.subIn K (.ref EDecodeError) (.ref e9TooFewChairs) = some false)
    (sC_1 : PySem.W.subIn K (.ref EDecodeError) (.ref CE) = some true)
    (vE_1 : PySem.W.subIn K (.ref EDecodeError) (.type "ValueError") = some true)
    (x1_1 : PySem.W.findIn K (.ref EDecodeError) "__getattribute__" = some (some (.builtin "BaseException.__getattribute__")))
    (x2_1 : PySem.W.findIn K (.ref EDecodeError) "__getattr__" = some none)
    (x3_1 : PySem.W.hasDictIn K EDecodeError = true)
    (x4_1 : PySem.W.findIn K (.ref EDecodeError) "__class__" = some (some (.builtin "object.__class__")))
    (x7_1 : PySem.W.mroIn K EDecodeError (.type "object") = some true)
    (nI_1 : PySem.W.findIn K (.ref EDecodeError) "index" = some none)
    (nR_1 : PySem.W.findIn K (.ref EDecodeError) "row" = some none)
    (nO_1 : PySem.W.findIn K (.ref EDecodeError) "offset" = some none)
    (pA : PySem.W.findIn K (.ref C) "steps" = some (some (.ref pS)))
    (pG : PySem.W.specialIn K (.ref pS) "__get__" = some (some (.builtin "property.__get__")))
    (pT : PySem.W.takesIn K (.ref pS) = some true)
    (pR : PySem.W.recIn K pS "property" = some (.ref fmst :: rs))
    (lmst : K.lookup fmst = some ⟨ocmst, odmst, .func (PySem.W.fnOf "steps" "Plan.steps" (defArgs sSteps) (defBody sSteps) (defScope sSteps) .none kVmst dcmst pmmst anmst cdmst ctmst), slmst⟩)
    (cmst : PySem.W.codeIn K cdmst "Plan.steps" = true)
    (kmst : PySem.W.keepIn K (.ref fmst) = true)
    (pg : PySem.W.plainGet K C Str.empty = true)
    (hd : PySem.W.hasDictIn K C = true)
    (po : PySem.W.plainOver K C = true)
    (sa : PySem.W.findIn K (.ref C) "__setattr__" = some (some (.builtin "object.__setattr__")))
    (mk : PySem.W.makesIn K C = true)
    (kc : PySem.W.keepIn K (.ref C) = true)
    (nS : PySem.W.findIn K (.ref C) "step_tuple" = some none)
    (rd : PySem.W.readsIn K C (.type "type") = true)
    (ga : PySem.W.specialIn K (.ref C) "__getattribute__" = some (some (.builtin "type.__getattribute__")))
    (v1 : PySem.W.findCls K (.ref C) (.type "type") "MAX_STEPS" = some (.val (.int 60 t1)))
    (v2 : PySem.W.findCls K (.ref C) (.type "type") "MAX_CHAIRS" = some (.val (.int 1000000000000000000 t2)))
    (w2 : PySem.W.findIn K (.ref C) "MAX_CHAIRS" = some (some (.int 1000000000000000000 t3)))
    (w3 : PySem.W.specialIn K (.int 1000000000000000000 t3) "__get__" = some none)
    (aT : PySem.W.nsIn K mainGlobals "TURN" = some (some (.ref TU)))
    (lT : K.lookup TU = some ⟨.type "tuple", dT, .seq #[.str "turn" t4] nT, slT⟩)
    (q_GROUP_SIZE : PySem.W.nsIn K mainGlobals "GROUP_SIZE" = some (some (.int 128 t_GROUP_SIZE)))
    (q_FIRST_NUMBER : PySem.W.nsIn K mainGlobals "FIRST_NUMBER" = some (some (.int 99 t_FIRST_NUMBER)))
    (q_MAX_NUMBER : PySem.W.nsIn K mainGlobals "MAX_NUMBER" = some (some (.int 255 t_MAX_NUMBER)))
    (z0 : PySem.W.nsIn K mainGlobals "isinstance" = some none)
    (z1 : PySem.W.nsIn K mainGlobals "int" = some none)
    (z2 : PySem.W.nsIn K mainGlobals "bool" = some none)
    (z3 : PySem.W.nsIn K mainGlobals "tuple" = some none)
    (z4 : PySem.W.nsIn K mainGlobals "list" = some none)
    (z5 : PySem.W.nsIn K mainGlobals "len" = some none)
    (z6 : PySem.W.nsIn K mainGlobals "max" = some none)
    (z7 : PySem.W.nsIn K mainGlobals "min" = some none)
    (z8 : PySem.W.nsIn K mainGlobals "abs" = some none)
    (z9 : PySem.W.nsIn K mainGlobals "enumerate" = some none)
    (z10 : PySem.W.nsIn K mainGlobals "range" = some none)
    (z11 : PySem.W.nsIn K mainGlobals "sum" = some none)
    (z12 : PySem.W.nsIn K mainGlobals "sorted" = some none)
    (z13 : PySem.W.nsIn K mainGlobals "divmod" = some none)
    (z14 : PySem.W.nsIn K mainGlobals "zip" = some none)
    (z15 : PySem.W.nsIn K mainGlobals "str" = some none)
    (z16 : PySem.W.nsIn K mainGlobals "dict" = some none)
    (z17 : PySem.W.nsIn K mainGlobals "ValueError" = some none)
    (z18 : PySem.W.nsIn K mainGlobals "any" = some none)
    : ∃ (fd : FuncData) (c T : Addr), PySem.W.tabIn K "law" = some (c, T) ∧ K.lookup T = none ∧ (∀ (s : Shared) (v : Value), BindsTo s fd ⟨[v], []⟩ [("_law_script", v)]) ∧ ∀ base : Heap, K.In base → base.Ns mainGlobals mg → TabB base mg c T → FnOk P w K mg base CX0 10 fa fd ["_law_script"] (spLawT K T) := by
  have e := hfa.symm.trans (PySem.W.mg_of X G a_law)
  cases e
  have Bb : Bt mg := ⟨PySem.W.mg_none_of X G z0, PySem.W.mg_none_of X G z1, PySem.W.mg_none_of X G z2, PySem.W.mg_none_of X G z3, PySem.W.mg_none_of X G z4, PySem.W.mg_none_of X G z5, PySem.W.mg_none_of X G z6, PySem.W.mg_none_of X G z7, PySem.W.mg_none_of X G z8, PySem.W.mg_none_of X G z9, PySem.W.mg_none_of X G z10, PySem.W.mg_none_of X G z11, PySem.W.mg_none_of X G z12, PySem.W.mg_none_of X G z13, PySem.W.mg_none_of X G z14, PySem.W.mg_none_of X G z15, PySem.W.mg_none_of X G z16, PySem.W.mg_none_of X G z17, PySem.W.mg_none_of X G z18⟩
  have F_is_whole := fun_mk (st := sIsWhole) l_is_whole c_is_whole k_is_whole
  have F_is_number := fun_mk (st := sIsNum) l_is_number c_is_number k_is_number
  have F_is_step := fun_mk (st := sIsStep) l_is_step c_is_step k_is_step
  have F__law_plan := fun_mk (st := s__law_plan) l__law_plan c__law_plan k__law_plan
  have F__law_mix := fun_mk (st := s__law_mix) l__law_mix c__law_mix k__law_mix
  have F__law_next := fun_mk (st := s__law_next) l__law_next c__law_next k__law_next
  have F__law_steps := fun_mk (st := s__law_steps) l__law_steps c__law_steps k__law_steps
  have F__law_alike := fun_mk (st := sAlike) l__law_alike c__law_alike k__law_alike
  have F_groups_of := fun_mk (st := s_groups_of) l_groups_of c_groups_of k_groups_of
  have F_checksum_of := fun_mk (st := s_checksum_of) l_checksum_of c_checksum_of k_checksum_of
  have F__law_sum := fun_mk (st := s__law_sum) l__law_sum c__law_sum k__law_sum
  have F_encode_plan := fun_mk (st := s_encode_plan) l_encode_plan c_encode_plan k_encode_plan
  have F__law_code := fun_mk (st := s__law_code) l__law_code c__law_code k__law_code
  have F__law_need := fun_mk (st := s__law_need) l__law_need c__law_need k__law_need
  have F__law_read := fun_mk (st := s__law_read) l__law_read c__law_read k__law_read
  have F__law_outcome := fun_mk (st := sOutcome) l__law_outcome c__law_outcome k__law_outcome
  have F_decode_plan := fun_mk (st := s_decode_plan) l_decode_plan c_decode_plan k_decode_plan
  have Fminit := fun_mk (st := sInit) lminit cminit kminit
  have Fmjoined := fun_mk (st := sJoined) lmjoined cmjoined kmjoined
  have Fmst := fun_mk (st := sSteps) lmst cmst kmst
  have b_is_whole := F_is_whole.binds (ps := ["value"]) fun _ _ _ _ _ _ us hl => match us, hl with | [_], _ => rfl
  have b_is_number := F_is_number.binds (ps := ["value", "least", "most"]) fun _ _ _ _ _ _ us hl => match us, hl with | [_, _, _], _ => rfl
  have b_is_step := F_is_step.binds (ps := ["step"]) fun _ _ _ _ _ _ us hl => match us, hl with | [_], _ => rfl
  have b__law_plan := F__law_plan.binds (ps := ["_law_steps_here"]) fun _ _ _ _ _ _ us hl => match us, hl with | [_], _ => rfl
  have b__law_mix := F__law_mix.binds (ps := ["_law_script", "_law_seed"]) fun _ _ _ _ _ _ us hl => match us, hl with | [_, _], _ => rfl
  have b__law_next := F__law_next.binds (ps := ["_law_h", "_law_limit"]) fun _ _ _ _ _ _ us hl => match us, hl with | [_, _], _ => rfl
  have b__law_steps := F__law_steps.binds (ps := ["_law_h", "_law_chairs", "_law_most"]) fun _ _ _ _ _ _ us hl => match us, hl with | [_, _, _], _ => rfl
  have b__law_alike := F__law_alike.binds (ps := ["_law_found", "_law_due"]) fun _ _ _ _ _ _ us hl => match us, hl with | [_, _], _ => rfl
  have b_groups_of := F_groups_of.binds (ps := ["need"]) fun _ _ _ _ _ _ us hl => match us, hl with | [_], _ => rfl
  have b_checksum_of := F_checksum_of.binds (ps := ["numbers"]) fun _ _ _ _ _ _ us hl => match us, hl with | [_], _ => rfl
  have b__law_sum := F__law_sum.binds (ps := ["_law_values"]) fun _ _ _ _ _ _ us hl => match us, hl with | [_], _ => rfl
  have b_encode_plan := F_encode_plan.binds (ps := ["plan"]) fun _ _ _ _ _ _ us hl => match us, hl with | [_], _ => rfl
  have b__law_code := F__law_code.binds (ps := ["_law_steps_here"]) fun _ _ _ _ _ _ us hl => match us, hl with | [_], _ => rfl
  have b__law_need := F__law_need.binds (ps := ["_law_code_here", "_law_at"]) fun _ _ _ _ _ _ us hl => match us, hl with | [_, _], _ => rfl
  have b__law_read := F__law_read.binds (ps := ["_law_code_here"]) fun _ _ _ _ _ _ us hl => match us, hl with | [_], _ => rfl
  have b__law_outcome := F__law_outcome.binds (ps := ["_law_call"]) fun _ _ _ _ _ _ us hl => match us, hl with | [_], _ => rfl
  have b_decode_plan := F_decode_plan.binds (ps := ["code"]) fun _ _ _ _ _ _ us hl => match us, hl with | [_], _ => rfl
  have bmst := Fmst.binds (ps := ["self"]) fun _ _ _ _ _ _ us hl => match us, hl with | [_], _ => rfl
  have Tt : Txt K mg C TU pS fmst (.type "type") := ⟨Bb, ⟨pg, hd, po, sa⟩, nS, PySem.W.mg_of X G aC, ⟨rd, ga⟩, ⟨_, v1, _, rfl⟩, ⟨_, v2, _, rfl⟩, ⟨_, w2, ⟨_, rfl⟩, w3, rfl⟩, PySem.W.mg_of X G aT,
    fun H => .inr ⟨_, _, _, lT, rfl, rfl, by show 1 ≤ sizeLine; decide, .cons ⟨_, rfl⟩ .nil⟩, ⟨pA, pG, pT, rs, pR⟩⟩
  refine ⟨PySem.W.fnOf "law" "law" (defArgs sLaw) (defBody sLaw) (defScope sLaw) .none kV_law dc_law pm_law an_law (.ref cL) ct_law, cL, PT, tab_mk a_law l_law rfl lC v11, tN, fun s v => .of_eq rfl, fun base _ _ TB => ?_⟩
  have at_ := fun {x : Str} {f : Addr} (a : PySem.W.nsIn K mainGlobals x = some (some (.ref f))) => PySem.W.mg_of X G a
  have Gg : Gs P w K mg base C fmst _ := ⟨ok_steps Fmst Tt, bmst⟩
  have Mm : Mk K C fminit := ⟨mk, aminit, iminit, kc⟩
  have Mj : Meth K C "joined" fmjoined := ⟨amjoined, imjoined, kmjoined⟩
  have D_is_whole := dn_mk (P := P) (w := w) (base := base) (at_ a_is_whole) k_is_whole (ok_iswhole F_is_whole Bb) b_is_whole
  have D_is_number := dn_mk (P := P) (w := w) (base := base) (at_ a_is_number) k_is_number (ok_isnum F_is_number D_is_whole) b_is_number
  have D_is_step := dn_mk (P := P) (w := w) (base := base) (at_ a_is_step) k_is_step (ok_isstep F_is_step Tt D_is_number) b_is_step
  have GI := ok_init Fminit Tt D_is_step
  have GJ := ok_joined Fmjoined Tt Gg Mm GI
  have D__law_plan := dn_mk (P := P) (w := w) (base := base) (at_ a__law_plan) k__law_plan (ok__law_plan F__law_plan Tt Mm GI Mj GJ) b__law_plan
  have D__law_mix := dn_mk (P := P) (w := w) (base := base) (at_ a__law_mix) k__law_mix (ok__law_mix F__law_mix Bb) b__law_mix
  have D__law_next := dn_mk (P := P) (w := w) (base := base) (at_ a__law_next) k__law_next (ok__law_next F__law_next Bb) b__law_next
  have D__law_steps := dn_mk (P := P) (w := w) (base := base) (at_ a__law_steps) k__law_steps (ok__law_steps F__law_steps Bb D__law_next) b__law_steps
  have D__law_alike := dn_mk (P := P) (w := w) (base := base) (at_ a__law_alike) k__law_alike (ok_alikeD F__law_alike Bb (at_ a__law_alike) k__law_alike b__law_alike 5) b__law_alike
  have D_groups_of := dn_mk (P := P) (w := w) (base := base) (at_ a_groups_of) k_groups_of (ok_groups_of F_groups_of ⟨_, PySem.W.mg_of X G q_GROUP_SIZE, ⟨_, rfl⟩⟩) b_groups_of
  have D_checksum_of := dn_mk (P := P) (w := w) (base := base) (at_ a_checksum_of) k_checksum_of (ok_checksum_of F_checksum_of ) b_checksum_of
  have D__law_sum := dn_mk (P := P) (w := w) (base := base) (at_ a__law_sum) k__law_sum (ok__law_sum F__law_sum ) b__law_sum
  have WS : WTup K SW := ⟨_, lSW, rfl, rfl⟩
  have gSW := at_ aSW
  have sSW : ∀ H, SqT K H SW [.str "red", .str "blue", .str "turn"] := fun H => .inr ⟨_, _, _, lSW, rfl, rfl, by show 3 ≤ sizeLine; decide, .cons ⟨_, rfl⟩ (.cons ⟨_, rfl⟩ (.cons ⟨_, rfl⟩ .nil))⟩
  have D_encode_plan := dn_mk (P := P) (w := w) (base := base) (at_ a_encode_plan) k_encode_plan (ok_encode_plan F_encode_plan Tt Gg ⟨_, PySem.W.mg_of X G q_FIRST_NUMBER, ⟨_, rfl⟩⟩ D_groups_of D_checksum_of WS gSW sSW) b_encode_plan
  have D__law_code := dn_mk (P := P) (w := w) (base := base) (at_ a__law_code) k__law_code (ok__law_code F__law_code Bb) b__law_code
  have D__law_need := dn_mk (P := P) (w := w) (base := base) (at_ a__law_need) k__law_need (ok__law_need F__law_need Bb) b__law_need
  have D__law_read := dn_mk (P := P) (w := w) (base := base) (at_ a__law_read) k__law_read (ok__law_read F__law_read Bb D__law_need D__law_sum) b__law_read
  have XTDecodeError : PySem.EoX.EiTxt P K mg "DecodeError" EDecodeError fIDecodeError := ⟨PySem.W.mg_of X G gDecodeError, kDecodeError, ⟨_, _, _, _, _, _, _, _, _, _, _, _, _, _, _, xDecodeError, by show PySem.HandSPX.refsVE PySem.HandSPX.veTail = true; decide +kernel⟩, saDecodeError, nbDecodeError, iDecodeError, tfDecodeError, bDecodeError, tDecodeError, svDecodeError, suDecodeError, opDecodeError, PySem.W.mg_none_of X G zsDecodeError, htDecodeError,
    ⟨ccDecodeError, cdaDecodeError, _, _, _, _, _, _, _, _, _, _, _, _, _, _, _, _, _, _, _, _, _, _, _, _, _, _, _, _, _, _, _, _, _, _, lDecodeError, cDecodeError, lcDecodeError, ldDecodeError, vfDecodeError, fiDecodeError, u1DecodeError, lnDecodeError⟩⟩
  have XFDecodeError : XfC K EDecodeError := ⟨gaDecodeError, ggDecodeError, bDecodeError, hdDecodeError⟩
  have EXDecodeError : PySem.W.exmOne K (.ref EDecodeError) (.ref EDecodeError) = some true := exm_own bDecodeError icDecodeError tDecodeError sDecodeError
  have Fri := fun_mk (st := s_CodeReader___init__) lri cri kri
  have Ftk := fun_mk (st := s_CodeReader_take) ltk ctk ktk
  have Ftn := fun_mk (st := s_CodeReader_take_need) ltn ctn ktn
  have Fts := fun_mk (st := s_CodeReader_take_step) lts cts kts
  have bri := Fri.binds (ps := ["self", "code"]) fun _ _ _ _ _ _ us hl => match us, hl with | [_, _], _ => rfl
  have btk := Ftk.binds (ps := ["self", "least", "most"]) fun _ _ _ _ _ _ us hl => match us, hl with | [_, _, _], _ => rfl
  have btn := Ftn.binds (ps := ["self"]) fun _ _ _ _ _ _ us hl => match us, hl with | [_], _ => rfl
  have bts := Fts.binds (ps := ["self"]) fun _ _ _ _ _ _ us hl => match us, hl with | [_], _ => rfl
  have OR : RTxt K CR := ⟨⟨pgR, hdR, poR, saR⟩, nR0, nR1⟩
  have MR : Mk K CR fri := ⟨mkR, ari, iri, kcR⟩
  have GRI : FnR P w K mg base CX0 1 fri (spRdInit CR) := ((ok_CodeReader___init__ (P := P) (w := w) (base := base) (mg := mg) Fri OR).raw bri .nil).imp fun vs H Q E h => by rw [List.append_nil]; exact h
  have MT : Meth K CR "take" ftk := ⟨atk, itk, ktk⟩
  have GT : FnR P w K mg base (L2.CX P w) 2 ftk (spTake CR EDecodeError) := ((okx_CodeReader_take (P := P) (w := w) (base := base) (mg := mg) Ftk Tt D_is_number OR XTDecodeError).raw btk .nil).imp fun vs H Q E h => by rw [List.append_nil]; exact h
  have MN : Meth K CR "take_need" ftn := ⟨atn, itn, ktn⟩
  have GN : FnR P w K mg base (L2.CX P w) 3 ftn (spTakeNeed CR EDecodeError) := ((okx_CodeReader_take_need (P := P) (w := w) (base := base) (mg := mg) Ftn Tt ⟨_, PySem.W.mg_of X G q_MAX_NUMBER, ⟨_, rfl⟩⟩ ⟨_, PySem.W.mg_of X G q_GROUP_SIZE, ⟨_, rfl⟩⟩ OR XTDecodeError MT GT).raw btn .nil).imp fun vs H Q E h => by rw [List.append_nil]; exact h
  have MS : Meth K CR "take_step" fts := ⟨ats, its, kts⟩
  have GS : FnR P w K mg base (L2.CX P w) 4 fts (spTakeStep CR EDecodeError) := ((okx_CodeReader_take_step (P := P) (w := w) (base := base) (mg := mg) Fts Tt OR MT GT MN GN gSW sSW).raw bts .nil).imp fun vs H Q E h => by rw [List.append_nil]; exact h
  have DXd := dnx_mk (P := P) (w := w) (base := base) (at_ a_decode_plan) k_decode_plan (okx_decode_plan F_decode_plan Tt Mm GI ⟨_, PySem.W.mg_of X G q_FIRST_NUMBER, ⟨_, rfl⟩⟩ D_checksum_of OR XTDecodeError MR GRI (at_ aR) MT GT MS GS) b_decode_plan
  have DCd : Dn P w K mg base 5 "decode_plan" f_decode_plan (spDecodeQ C EDecodeError) := ⟨at_ a_decode_plan, k_decode_plan, fnr_calm DXd.ok⟩
  have Kcode : IsKind K CE e9DaybookError EDecodeError e9InvalidBooking e9InvalidNumber e9InvalidOperation e9InvalidPlan e9InvalidText e9NotEnough e9TooFewChairs EDecodeError "code" := ⟨PySem.W.exm_ref bCE dCE tCE sC_1, _, _, _, _, _, _, _, _, _, 1, ⟨⟨x1_1, x2_1, bDecodeError, x3_1, x4_1, x5N, x6N, x7_1⟩, ⟨x1_1, x2_1, bDecodeError, x3_1⟩, tDecodeError, sDecodeError, nI_1, nR_1, nO_1, kit_noB sDecodeError i9DaybookError t9DaybookError es_1_0, kit_ref icDecodeError tDecodeError sDecodeError (fun z => nomatch z), kit_noB sDecodeError i9InvalidBooking t9InvalidBooking es_1_2, kit_noB sDecodeError i9InvalidNumber t9InvalidNumber es_1_3, kit_noB sDecodeError i9InvalidOperation t9InvalidOperation es_1_4, kit_noB sDecodeError i9InvalidPlan t9InvalidPlan es_1_5, kit_noB sDecodeError i9InvalidText t9InvalidText es_1_6, kit_noB sDecodeError i9NotEnough t9NotEnough es_1_7, kit_noB sDecodeError i9TooFewChairs t9TooFewChairs es_1_8, kit_ve vE_1⟩, flags_code⟩
  have NG : Nine mg e9DaybookError EDecodeError e9InvalidBooking e9InvalidNumber e9InvalidOperation e9InvalidPlan e9InvalidText e9NotEnough e9TooFewChairs := ⟨at_ g9DaybookError, at_ gDecodeError, at_ g9InvalidBooking, at_ g9InvalidNumber, at_ g9InvalidOperation, at_ g9InvalidPlan, at_ g9InvalidText, at_ g9NotEnough, at_ g9TooFewChairs⟩
  exact ok_law l_law c_law TB Tt Gg D__law_mix D__law_steps D__law_next D__law_code D__law_sum D__law_alike D_encode_plan D__law_plan D__law_read F__law_outcome (at_ a__law_outcome) k__law_outcome b__law_outcome (at_ gCE) NG Kcode DCd DXd
end Cc

open PySem PySem.W PyProof.Rows
set_option maxRecDepth 100000 in
set_option maxHeartbeats 0 in
theorem PySem.Challenge.cw_chaircarry_k48_whole_codes_of_plans_holds : PySem.Challenge.rw_chaircarry_k48_whole_codes_of_plans.Holds := by
  w_on; o_law; k_head; (case hw => w_witness2)
  k_fill
  refine Cc.walk_tab (l := PySem.Challenge.rw_chaircarry_k48_whole_codes_of_plans) (n := 63) (k := 10) (x := "_law_script") (sp := fun w T => Cc.spLawT _ T) rfl (by decide) rfl ⟨rfl, by decide, by decide⟩ (fun w h Y => PySem.W.km_in_of Y) rfl ?F fun _ T H a ns hl hT hF => ⟨a, ns, rfl, hF, hl, hT, fun _ => rfl⟩
  case F =>
    intro w mg fa h KX G hmg
    refine' Cc.all_mk KX G hmg ?a_is_whole ?l_is_whole ?c_is_whole ?k_is_whole ?a_is_number ?l_is_number ?c_is_number ?k_is_number ?a_is_step ?l_is_step ?c_is_step ?k_is_step ?a__law_plan ?l__law_plan ?c__law_plan ?k__law_plan ?a__law_mix ?l__law_mix ?c__law_mix ?k__law_mix ?a__law_next ?l__law_next ?c__law_next ?k__law_next ?a__law_steps ?l__law_steps ?c__law_steps ?k__law_steps ?a__law_alike ?l__law_alike ?c__law_alike ?k__law_alike ?a_groups_of ?l_groups_of ?c_groups_of ?k_groups_of ?a_checksum_of ?l_checksum_of ?c_checksum_of ?k_checksum_of ?a__law_sum ?l__law_sum ?c__law_sum ?k__law_sum ?a_encode_plan ?l_encode_plan ?c_encode_plan ?k_encode_plan ?a__law_code ?l__law_code ?c__law_code ?k__law_code ?a__law_need ?l__law_need ?c__law_need ?k__law_need ?a__law_read ?l__law_read ?c__law_read ?k__law_read ?a_law ?l_law ?c_law ?lC ?v11 ?tN ?k_law ?a__law_outcome ?l__law_outcome ?c__law_outcome ?k__law_outcome ?a_decode_plan ?l_decode_plan ?c_decode_plan ?k_decode_plan ?aC ?aminit ?iminit ?lminit ?cminit ?kminit ?amjoined ?imjoined ?lmjoined ?cmjoined ?kmjoined ?gDecodeError ?xDecodeError ?kDecodeError ?saDecodeError ?gaDecodeError ?ggDecodeError ?nbDecodeError ?iDecodeError ?tfDecodeError ?bDecodeError ?tDecodeError ?hdDecodeError ?icDecodeError ?sDecodeError ?svDecodeError ?suDecodeError ?opDecodeError ?zsDecodeError ?htDecodeError ?lDecodeError ?cDecodeError ?lcDecodeError ?ldDecodeError ?vfDecodeError ?fiDecodeError ?u1DecodeError ?lnDecodeError ?aR ?pgR ?hdR ?poR ?saR ?mkR ?kcR ?nR0 ?nR1 ?ari ?iri ?lri ?cri ?kri ?atk ?itk ?ltk ?ctk ?ktk ?atn ?itn ?ltn ?ctn ?ktn ?ats ?its ?lts ?cts ?kts ?aSW ?lSW ?g9DaybookError ?i9DaybookError ?t9DaybookError ?g9InvalidBooking ?i9InvalidBooking ?t9InvalidBooking ?g9InvalidNumber ?i9InvalidNumber ?t9InvalidNumber ?g9InvalidOperation ?i9InvalidOperation ?t9InvalidOperation ?g9InvalidPlan ?i9InvalidPlan ?t9InvalidPlan ?g9InvalidText ?i9InvalidText ?t9InvalidText ?g9NotEnough ?i9NotEnough ?t9NotEnough ?g9TooFewChairs ?i9TooFewChairs ?t9TooFewChairs ?gCE ?bCE ?dCE ?tCE ?x5N ?x6N ?es_1_0 ?es_1_2 ?es_1_3 ?es_1_4 ?es_1_5 ?es_1_6 ?es_1_7 ?es_1_8 ?sC_1 ?vE_1 ?x1_1 ?x2_1 ?x3_1 ?x4_1 ?x7_1 ?nI_1 ?nR_1 ?nO_1 ?pA ?pG ?pT ?pR ?lmst ?cmst ?kmst ?pg ?hd ?po ?sa ?mk ?kc ?nS ?rd ?ga ?v1 ?v2 ?w2 ?w3 ?aT ?lT ?q_GROUP_SIZE ?q_FIRST_NUMBER ?q_MAX_NUMBER ?z0 ?z1 ?z2 ?z3 ?z4 ?z5 ?z6 ?z7 ?z8 ?z9 ?z10 ?z11 ?z12 ?z13 ?z14 ?z15 ?z16 ?z17 ?z18
    (case a_is_whole => k_is); (case l_is_whole => k_is); (case c_is_whole => k_is); (case k_is_whole => k_is); (case a_is_number => k_is); (case l_is_number => k_is)
    (case c_is_number => k_is); (case k_is_number => k_is); (case a_is_step => k_is); (case l_is_step => k_is); (case c_is_step => k_is); (case k_is_step => k_is)
    (case a__law_plan => k_is); (case l__law_plan => k_is); (case c__law_plan => k_is); (case k__law_plan => k_is); (case a__law_mix => k_is); (case l__law_mix => k_is)
    (case c__law_mix => k_is); (case k__law_mix => k_is); (case a__law_next => k_is); (case l__law_next => k_is); (case c__law_next => k_is); (case k__law_next => k_is)
    (case a__law_steps => k_is); (case l__law_steps => k_is); (case c__law_steps => k_is); (case k__law_steps => k_is); (case a__law_alike => k_is); (case l__law_alike => k_is)
    (case c__law_alike => k_is); (case k__law_alike => k_is); (case a_groups_of => k_is); (case l_groups_of => k_is); (case c_groups_of => k_is); (case k_groups_of => k_is)
    (case a_checksum_of => k_is); (case l_checksum_of => k_is); (case c_checksum_of => k_is); (case k_checksum_of => k_is); (case a__law_sum => k_is); (case l__law_sum => k_is)
    (case c__law_sum => k_is); (case k__law_sum => k_is); (case a_encode_plan => k_is); (case l_encode_plan => k_is); (case c_encode_plan => k_is); (case k_encode_plan => k_is)
    (case a__law_code => k_is); (case l__law_code => k_is); (case c__law_code => k_is); (case k__law_code => k_is); (case a__law_need => k_is); (case l__law_need => k_is)
    (case c__law_need => k_is); (case k__law_need => k_is); (case a__law_read => k_is); (case l__law_read => k_is); (case c__law_read => k_is); (case k__law_read => k_is)
    (case a_law => k_is); (case l_law => k_is); (case c_law => k_is); (case lC => k_is); (case v11 => exact rfl); (case tN => exact rfl)
    (case k_law => k_is); (case a__law_outcome => k_is); (case l__law_outcome => k_is); (case c__law_outcome => k_is); (case k__law_outcome => k_is); (case a_decode_plan => k_is)
    (case l_decode_plan => k_is); (case c_decode_plan => k_is); (case k_decode_plan => k_is); (case aC => k_is); (case aminit => k_is); (case iminit => k_is)
    (case lminit => k_is); (case cminit => k_is); (case kminit => k_is); (case amjoined => k_is); (case imjoined => k_is); (case lmjoined => k_is)
    (case cmjoined => k_is); (case kmjoined => k_is); (case gDecodeError => k_is); (case xDecodeError => k_is); (case kDecodeError => k_is); (case saDecodeError => k_is)
    (case gaDecodeError => k_is); (case ggDecodeError => k_is); (case nbDecodeError => k_is); (case iDecodeError => k_is); (case tfDecodeError => k_is); (case bDecodeError => k_is)
    (case tDecodeError => k_is); (case hdDecodeError => k_is); (case icDecodeError => k_is); (case sDecodeError => first | rfl | k_is); (case svDecodeError => k_is); (case suDecodeError => ks_is)
    (case opDecodeError => k_is); (case zsDecodeError => k_is); (case htDecodeError => first | rfl | decide +kernel); (case lDecodeError => k_is); (case cDecodeError => k_is); (case lcDecodeError => k_is)
    (case ldDecodeError => k_is); (case vfDecodeError => first | exact rfl | decide +kernel); (case fiDecodeError => first | rfl | decide +kernel); (case u1DecodeError => decide +kernel); (case lnDecodeError => first | rfl | decide +kernel); (case aR => k_is)
    (case pgR => k_is); (case hdR => k_is); (case poR => k_is); (case saR => k_is); (case mkR => k_is); (case kcR => k_is)
    (case nR0 => k_is); (case nR1 => k_is); (case ari => k_is); (case iri => k_is); (case lri => k_is); (case cri => k_is)
    (case kri => k_is); (case atk => k_is); (case itk => k_is); (case ltk => k_is); (case ctk => k_is); (case ktk => k_is)
    (case atn => k_is); (case itn => k_is); (case ltn => k_is); (case ctn => k_is); (case ktn => k_is); (case ats => k_is)
    (case its => k_is); (case lts => k_is); (case cts => k_is); (case kts => k_is); (case aSW => k_is); (case lSW => k_is)
    (case g9DaybookError => k_is); (case i9DaybookError => k_is); (case t9DaybookError => k_is); (case g9InvalidBooking => k_is); (case i9InvalidBooking => k_is); (case t9InvalidBooking => k_is)
    (case g9InvalidNumber => k_is); (case i9InvalidNumber => k_is); (case t9InvalidNumber => k_is); (case g9InvalidOperation => k_is); (case i9InvalidOperation => k_is); (case t9InvalidOperation => k_is)
    (case g9InvalidPlan => k_is); (case i9InvalidPlan => k_is); (case t9InvalidPlan => k_is); (case g9InvalidText => k_is); (case i9InvalidText => k_is); (case t9InvalidText => k_is)
    (case g9NotEnough => k_is); (case i9NotEnough => k_is); (case t9NotEnough => k_is); (case g9TooFewChairs => k_is); (case i9TooFewChairs => k_is); (case t9TooFewChairs => k_is)
    (case gCE => k_is); (case bCE => k_is); (case dCE => k_is); (case tCE => k_is); (case x5N => k_is); (case x6N => k_is)
    (case es_1_0 => first | rfl | k_is); (case es_1_2 => first | rfl | k_is); (case es_1_3 => first | rfl | k_is); (case es_1_4 => first | rfl | k_is); (case es_1_5 => first | rfl | k_is); (case es_1_6 => first | rfl | k_is)
    (case es_1_7 => first | rfl | k_is); (case es_1_8 => first | rfl | k_is); (case sC_1 => first | rfl | k_is); (case vE_1 => k_is); (case x1_1 => k_is); (case x2_1 => k_is)
    (case x3_1 => k_is); (case x4_1 => k_is); (case x7_1 => k_is); (case nI_1 => k_is); (case nR_1 => k_is); (case nO_1 => k_is)
    (case pA => k_is); (case pG => k_is); (case pT => k_is); (case pR => k_is); (case lmst => k_is); (case cmst => k_is)
    (case kmst => k_is); (case pg => k_is); (case hd => k_is); (case po => k_is); (case sa => k_is); (case mk => k_is)
    (case kc => k_is); (case nS => k_is); (case rd => k_is); (case ga => k_is); (case v1 => k_is); (case v2 => k_is)
    (case w2 => k_is); (case w3 => k_is); (case aT => k_is); (case lT => k_is); (case q_GROUP_SIZE => k_is); (case q_FIRST_NUMBER => k_is)
    (case q_MAX_NUMBER => k_is); (case z0 => k_is); (case z1 => k_is); (case z2 => k_is); (case z3 => k_is); (case z4 => k_is)
    (case z5 => k_is); (case z6 => k_is); (case z7 => k_is); (case z8 => k_is); (case z9 => k_is); (case z10 => k_is)
    (case z11 => k_is); (case z12 => k_is); (case z13 => k_is); (case z14 => k_is); (case z15 => k_is); (case z16 => k_is)
    (case z17 => k_is); (case z18 => k_is)
#print axioms PySem.Challenge.cw_chaircarry_k48_whole_codes_of_plans_holds
