import PyProof.Rows.All
import Wide.All
import OpenK.AllK
import Wide.FinOn
import Lean
import PyProof.EqAt
import PyProof.EqKinds
import PyProof.TupleCall
import KE.KIntText
import PyProof.Rows.SortShell
import PyProof.Rows.CallKwBuiltin
import KE.KSortKey
import KE.KDictSum
import KE.KRevIter
import PySem.Challenge.RW_manyhands_k26_lines_of_it
set_option linter.all false
set_option genSizeOf false
set_option Elab.async false
set_option maxRecDepth 100000
set_option maxHeartbeats 4000000
def AA:=@PySem.wpAny_bind
def AB:=@Option.bind_eq_some_iff
def AC:=@PySem.wpAny_pure
def AD:=@List.mem_cons_of_mem
def AE:=@List.mem_cons
def AG:=@PySem.Heap.get?_push_of_some
def AH:=@List.map_cons
def AI:=@if_neg
def AJ:=@List.length_cons
def AK:=@Ne.symm
def AL:=@List.mem_cons_self
def AM:=@List.mem_map_of_mem
def AN:=@List.size_toArray
def AO:=@Option.map_eq_some_iff
def AQ:=@if_pos
def AR:=@List.mem_append
def AS:=@List.mem_append_right
def AT:=@List.length_append
def AU:=@List.length_map
def AV:=@List.mem_singleton
def AW:=@decide_eq_false
def AX:=@List.nodup_cons
def AY:=@Nat.le_refl
def AZ:=@List.mem_map
def BA:=@List.getElem?_eq_some_iff
def BB:=@List.getElem?_eq_getElem
def BC:=@Bool.false_ne_true
def BD:=@PySem.Heap.get?_push_size
def BE:=@Nat.lt_of_lt_of_le
def BF:=@PySem.Heap.lt_size
def BG:=@List.mem_append_left
def BH:=@Bool.and_eq_true
def BI:=@Bool.false_eq_true
def BJ:=@List.map_append
def BK:=@decide_eq_true
def BL:=@List.append_nil
def BM:=@decide_eq_true_eq
def BN:=@Nat.le_trans
def BO:=@List.not_mem_nil
def BP:=@List.nodup_append
def BQ:=@PySem.PassesOwn.never
def BR:=@List.getElem?_set_ne
def BS:=@List.getElem?_map
def BU:=@Array.getElem?_eq_getElem
def BV:=@Nat.ne_of_lt
def BW:=@if_false
def BX:=@PySem.wpAny_call_entry
def BY:=@List.lookup_cons
def BZ:=@Option.some.inj
def CA:=@PySem.wpAny_truthy_bool
def CB:=@List.map_map
def CC:=@PySem.wpAny_holding
def CD:=@List.getElem?_append_right
def CF:=@if_true
def CG:=@List.length_singleton
def CH:=@PySem.sizeLine_eq
def CI:=@Nat.zero_le
def CJ:=@List.map_congr_left
def CK:=@Array.length_toList
def CL:=@List.getElem?_eq_none
def CM:=@List.filter_cons_of_pos
def CN:=@List.filter_cons_of_neg
def CO:=@List.getElem_mem
def CP:=@PySem.wpAny_callSpecial?_slot
def CQ:=@List.append_assoc
def CS:=@List.getElem?_set_self
def CT:=@PySem.Heap.get?_update_other
def CU:=@PyProof.Rows.callWith_type1
def CV:=@PyProof.Rows.wpS_bind
def CW:=@Nat.lt_of_le_of_lt
def CY:=@List.pairwise_cons
def CZ:=@List.nil_append
def DB:=@List.length_zip
def DC:=@List.getElem?_append_left
def DD:=@List.filter_eq_self
def DF:=@PySem.wpAny_mono
def DH:=@of_decide_eq_true
def DJ:=@List.flatMap_cons
def DK:=@PySem.F.slot_dict_keyiterator_next
def DM:=@PySem.wpAny_newObj_type
def DN:=@or_false
def DO:=@List.mem_filter
def DP:=@Int.emod_lt_of_pos
def DQ:=@List.all_eq_true
def DR:=@Prod.mk.injEq
def DU:=@PySem.wpAny_field
def DV:=@PySem.Str.length_append
def DX:=@PySem.Heap.SameBut.update
def DY:=@beq_self_eq_true
def DZ:=@decide_eq_false_iff_not
def EA:=@Bool.not_true
def EB:=@PySem.wpAny_rule
def EC:=@beq_eq_false_iff_ne
def ED:=@PySem.mem_of_lookup
def EE:=@List.replicate_succ
def EF:=@List.length_set
def EG:=@List.length_nil
def EH:=@List.find?_cons
def EI:=@Int.emod_nonneg
def EJ:=@Bool.eq_iff_iff
def EK:=@PyProof.Rows.wpS_pure
def EL:=@PySem.wpAny_dictEntries
def EM:=@List.zipIdx_cons
def EN:=@PySem.wpAny_dictEpoch
def EO:=@Nat.lt_or_ge
def EQ:=@Nat.lt_irrefl
def ER:=@List.getElem?_toArray
def ES:=@List.any_cons
def ET:=@Array.getElem?_toList
def EU:=@PySem.Calls.callWith_builtin
def EV:=@List.drop_eq_getElem_cons
def EW:=@Int.le_refl
def EX:=@PySem.wpAny_Call_Name_kw
def EY:=@List.length_range
def EZ:=@List.filter_congr
def FA:=@Int.toNat_natCast
def FB:=@PySem.Calls.spliced_cons
def FC:=@PySem.F.plainAttrs_list
def FD:=@Bool.and_self
def FE:=@Option.bind_some
def FF:=@Nat.lt_succ_self
def FG:=@List.cons_append
def FH:=@List.mem_filterMap
def FI:=@PySem.Paired.length
def FJ:=@PySem.wpAny_typeNameOfWhole_keyiter
def FK:=@Nat.le_of_lt
def FL:=@List.mem_iff_getElem?
def FM:=@List.map_nil
def FN:=@List.length_replicate
def FO:=@List.length_filter_le
def FP:=@List.forIn_cons
def FQ:=@PySem.wpAny_seqItems
def FR:=@beq_iff_eq
def FS:=@List.flatten_cons
def FT:=@List.all_cons
def FU:=@PySem.wpAny_setField_rec
def FV:=@PySem.F.slot_NoneType_hash
def FW:=@PySem.wpAny_passesOwn
def FX:=@List.nodup_nil
def FY:=@PySem.Heap.get?_update_self
def FZ:=@PySem.F.slot_tuple_iterator_next
def GA:=@PySem.Calls.evalArgs_plain
def GB:=@PySem.F.plainAttrs_dict
def GC:=@List.length_zipIdx
def GE:=@List.length_eq_zero_iff
def GF:=@List.getElem?_replicate
def GG:=@List.filter_map
def GH:=@List.filter_filter
def GI:=@PySem.Heap.size_push
def GJ:=@List.take_succ_eq_append_getElem
def GK:=@PySem.wpAny_typeNameOf_keyiter
def GL:=@PyProof.Rows.slot_tuple_getitem
def GM:=@List.mem_range
def GN:=@List.Perm.refl
def GO:=@not_or
def GP:=@PySem.F.slot_dict_get
def GQ:=@Nat.ne_of_gt
def GR:=@Bool.not_eq_eq_eq_not
def GS:=@List.mem_of_getElem?
def GT:=@PySem.Calls.spliced_nil
def GU:=@PySem.wpAny_notOrdered_dict
def GV:=@Option.map_some
def GW:=@List.length_reverse
def GX:=@List.filter_sublist
def GY:=@PyProof.Rows.listUpdate_at
def GZ:=@List.nodup_iff_pairwise_ne
def HA:=@Array.getElem?_eq_some_iff
def HB:=@of_decide_eq_false
def HC:=@Nat.le_of_eq
def HD:=@List.zip_cons_cons
def HE:=@List.getElem_range
def HF:=@PySem.wpAny_attempt
def HG:=@PySem.strLen_append
def HH:=@List.pairwise_iff_getElem
def HI:=@List.forIn_nil
def HJ:=@Classical.byContradiction
def HK:=@Bool.not_false
def HL:=@PySem.wpAny_specialOf
def HM:=@PySem.slot_dict_contains
def HN:=@PySem.F.args_tuple_add_2
def HP:=@Option.isSome_iff_exists
def HQ:=@decide_true
def HR:=@PySem.F.entry_tuple_add
def HS:=@Nat.le_succ
def HU:=@PySem.SeqAt.EqAt.int_int
def HV:=@PySem.Obj.data_mapFields
def HX:=@List.length_take
def HY:=@List.drop_length
def HZ:=@PySem.Calls.Constant_str
def IA:=@PySem.F.slot_tuple_add
def IB:=@List.take_of_length_le
def IE:=@List.reverse_singleton
def IF:=@PySem.wpAny_pyIter_enum
def IG:=@PySem.wpAny_Call_method
def IH:=@decide_false
def II:=@Nat.zero_add
def IJ:=@List.zipIdx_nil
def IK:=@List.foldl_cons
def IL:=@List.cons.injEq
def IM:=@true_and
def IN:=@PyProof.Rows.get?_update_seq
def IP:=@PySem.wpAny_standAt
def IQ:=@PySem.wpAny_letGo
def IR:=@List.mem_iff_getElem
def IS:=@List.getElem?_zipIdx
def IT:=@PySem.wpAny_forIn_list
def IU:=@PySem.F.args_dict_keyiterator_next_1
def IV:=@Bool.and_false
def IW:=@PyProof.Rows.wpS_forRange
def IY:=@PyProof.Rows.listItems_at
def IZ:=@PySem.F.entry_dict_keyiterator_next
def JA:=@List.flatMap_append
def JB:=@List.filterMap_cons
def JC:=@PyProof.Rows.joinParts_cons
def JD:=@PySem.wpAny_loadPart'
def JE:=@PySem.wpAny_isTrue_Compare1
def JF:=@PySem.wpAny_isOneOf_keyiter
def JG:=@PySem.wpAny_execs_nil
def JH:=@PySem.codeAny_mono
def JI:=@List.filter_append
def JJ:=@List.append_of_mem
def JK:=@PySem.F.slot_zip_next
def JL:=@PySem.call_meets
def JM:=@PySem.wpAny_updateSeq_pair
def JN:=@PySem.wpAny_updateDictKeys
def JO:=@bne_self_eq_false
def JP:=@List.pairwise_map
def JQ:=@List.ext_getElem?
def JR:=@PySem.wpAny_setField
def JS:=@PySem.wpAny_fieldsOf
def JT:=@List.mem_flatMap
def JU:=@List.length_drop
def JV:=@List.filter_cons
def JW:=@PySem.F.slot_dict_setdefault
def JX:=@PySem.wpAny_onRaise
def JY:=@PySem.wpAny_newList
def JZ:=@PySem.W.kia_one
def KA:=@Nat.not_lt_zero
def KB:=@List.of_mem_zip
def KC:=@List.mem_zipIdx
set_option hygiene false
section open Lean
def z'E:Nat->Syntax->String
|0,_=>""
|n+1,s=>match s with
 |.node _ k a=>a.foldl (λr x=>r++z'E n x) s!"n{a.size} {(toString k).replace "Lean.Parser." "~"}\n"
 |.atom _ v=>s!"a{v}\n"
 |.ident _ _ v _=>s!"i{v}\n"
 |_=>"m\n"
def z'D(f:SourceInfo):Nat->List String->Syntax×List String
|n+1,x::l=>let r:=(x.drop 1).toString;match x.front with
 |'n'=>let c:=(r.takeWhile Char.isDigit).toString;let (a,l):=c.toNat!.fold (λ_ _ (a,l)=>let (y,l):=z'D f n l;(a.push y,l)) (#[],l);(.node f ((r.drop (c.length+1)).toString.replace "~" "Lean.Parser.").toName a,l)
 |'a'=>(.atom f r,l)
 |'i'=>(.ident f r.toRawSubstring r.toName [],l)
 |_=>(.missing,l)
|_,l=>(.missing,l)
def z'K:List (String×String):=[("P","n3 ~Term.paren\nn2 ~Term.hygienicLParen\na(\nn1 hygieneInfo\ni[anonymous]"),("D","n1 ~Tactic.tacticSeq\nn1 ~Tactic.tacticSeq1Indented"),("E","n2 ~Term.dotIdent\na."),("A","n2 ~Term.app"),("B","n1 null"),("C","n0 null"),("F","n2 null"),("G","n3 null"),("H","n1 ~Tactic.rcasesPatMed"),("I","n1 ~Tactic.rcasesPat.one"),("J","n2 ~Tactic.rcasesPatLo"),("K","n1 ~Tactic.optConfig"),("L","n4 ~Term.basicFun"),("M","n1 ~Term.hole\na_"),("N","n2 ~Term.byTactic\naby")]
def z'Z(r:SourceInfo)(f:String):Syntax:=(z'D r 999 (((f.takeWhile (·≠'\r')).toString.splitOn "\n").flatMap λs=>match z'K.lookup s with|some x=>x.splitOn "\n"|_=>[s])).1
local macro_rules|`(z [$x,*])=>do let a:=x.getElems;let mut r:="";for i in [0:a.size/2] do {r:=s!"{r}\r{match a[2*i]!.raw.isStrLit? with|some s=>s|_=>a[2*i]!.raw.getId.toString}\r{z'E 999 a[2*i+1]!}"};return (Syntax.mkStrLit (z'K.foldl (λr p=>r.replace (p.2++"\n") (p.1++"\n")) r)).raw
def z't't:String:=z ["pc!",(by simp[Er,Cv,sSeq,Lp,Fc,Fp,Fs,Jl,Ho,Gb,Ui,Fk,fT,Gp,Aa,Ky,f2,Rz,Si,Uw,cD,Vv,Eo,Hm,f1,Ad,An,Li,fC,Lr,Ei,Bb,Gr,Ih,En,Ey,Dh,Ar,Gf,Ig,Bz,Hq,Je,Cy,Bw,Bv,Dw,Bg,Fb,Xt,Ge,HT.sIx,List.getElem?_cons_zero,List.getElem?_cons_succ]),"!5",(by split at e),"!#",(by refine' DL.Bx KX G ?a ?l ?c ?k ?b;(case a=>k_is);(case l=>k_is);(case c=>k_is);(case k=>k_is);(case b=>exact λ_ _ _ _ _ _=>DL.Yg λ_=>rfl)),"!Q",(by constructor),"#4",(by dsimp only),"!$",(by refine' DL.Bx KX G ?a ?l ?c ?k ?b;(case a=>k_is);(case l=>k_is);(case c=>k_is);(case k=>k_is);(case b=>exact λ_ _ _ _ _ _=>DL.aH λ_ _=>rfl)),"!*",(by refine' DL.Hc KX G ?a;(case a=>k_is)),"!0",(by intro x y dx dy d G H Q sub rx ry e k),"!1",(by obtain⟨ka,bm⟩:=Ex ha),"!.",(by dsimp only;(show W.findIn _ _ _=_);k_is),"!4",(by obtain⟨v,rfl,rv⟩:=Hl r),"!B",(by rename_i hl;cases e),"!h",(by intro z;cases z),"!i",(by by_cases hk:k=d),"!%",(by dsimp only;refine' DL.He ?a ?i ?l ?c ?k ?b;(case a=>k_is);(case i=>k_is);(case l=>k_is);(case c=>k_is);(case k=>k_is);(case b=>exact λ_ _ _ _ _ _=>DL.aH λ_ _=>rfl)),"!,",(by dsimp only;refine' DL.Jv KX G ?a;(case a=>k_is)),"!/",(by intro X hP hw hK hc i J s Z H E I hf st hg;subst hP hw hK),"!7",(by rename_i h;cases e;subst h),"!?",(by obtain⟨t,rfl⟩:=rx),"!I",(by intro J s Z H Q I h),"!U",(by simp only[AR,AE,DR]),"!2",(by obtain⟨f0,f1,f2,f3,f4,f5⟩:=hf it c_),"!;",(by obtain⟨x,e1,e⟩:=AB.mp e),"!L",(by unfold fT;rw[this];rfl),"#)",(by simp only[BI,BW]),"!:",(by obtain⟨q0,h0,rfl⟩:=AZ.mp hq),"!>",(by intro vs ds d G H Q sub r e k),"#2",(by exact hA.live b O),"#>",(by simpa using this),"!(",(by refine' DL.Bx KX G ?a ?l ?c ?k ?b;(case a=>k_is);(case l=>k_is);(case c=>k_is);(case k=>k_is);(case b=>exact λ_ _ _ _ _ _=>DL.us3 λ_ _ _=>rfl)),"!+",(by refine' DL.cC KX G ?a;(case a=>k_is)),"!H",(by obtain⟨q,hq,rfl⟩:=AZ.mp hd),"!R",(by subst e;exact I1.fpOk x_ (I1.hok.fresh x_)),"!u",(by exact k _ G H aP! Bl.bl),"#*",(by obtain⟨t,rfl⟩:=r),"#?",(by rw[fM_];exact EW _),"!'",(by dsimp only;refine' DL.He ?a ?i ?l ?c ?k ?b;(case a=>k_is);(case i=>k_is);(case l=>k_is);(case c=>k_is);(case k=>k_is);(case b=>exact λ_ _ _ _ _ _=>DL.us4 λ_ _ _ _=>rfl)),"!3",(by obtain⟨a1,a2,a3,a4,a5,a6,k1,k2,k3,k4,k5,k6,hA⟩:=h';refine m_),"!C",(by intro x y dx dy d M G H Q sub m rx ry e k),"!F",(by obtain⟨o',e1⟩:=I.base.there b o e L),"!J",(by obtain⟨ds,e1,e⟩:=AB.mp e;show"!5"),"!O",(by rename_i h;rw[BH,BH,BM]at h;cases e),"!T",(by obtain⟨its,r,pl,hz⟩:=I.list hq),"!V",(by obtain⟨o,e,c,d⟩:=st;exact ⟨o,e,λv z=>by rw[d]at z;cases z⟩),"!X",(by obtain⟨a,vs,rfl,qa,ra⟩:=Cz rx),"!Y",(by intro vs ds d M G H Q sub m r e k),"!]",(by obtain⟨p,vs,rfl,q,rr⟩:=Cz r),"!d",(by cases Bp rx;cases Bp ry;cases e),"!r",(by unfold Gf Ig;rw[Y_,ei!];simp),"!|",(by subst O;rw[Db]at e;cases e),"!}",(by obtain⟨wt,wn,qa,hA⟩:=h),"#(",(by subst q1;rw[Gv];show"!Q"),"#0",(by unfold Gf Ig;rw[Y_,d3!]),"#:",(by obtain⟨a,rfl,q⟩:=L),"#F",(by rintro(z|⟨z,_⟩|z)),"#G",(by rintro(z|⟨_,z⟩|z)),"#H",(by rename_i p;cases Kt r),"!&",(by dsimp only;refine' DL.He ?a ?i ?l ?c ?k ?b;(case a=>k_is);(case i=>k_is);(case l=>k_is);(case c=>k_is);(case k=>k_is);(case b=>exact λ_ _ _ _ _ _=>DL.us3 λ_ _ _=>rfl)),"!)",(by refine' DL.Bx KX G ?a ?l ?c ?k ?b;(case a=>k_is);(case l=>k_is);(case c=>k_is);(case k=>k_is);(case b=>exact λ_ _ _ _ _ _=>DL.us4 λ_ _ _ _=>rfl)),"!-",(by dsimp only;refine'⟨?pg,?hd,?po,?sa⟩;(case pg=>k_is);(case hd=>k_is);(case po=>k_is);(case sa=>k_is)),"!6",(by obtain⟨v1,t1,rfl,r1,rr⟩:=Dc rr;obtain⟨v2,t2,rfl,r2,rr⟩:=Dc rr;cases Fq rr),"!N",(by unfold Bc at h;obtain⟨u,r,e1,q,t⟩:=h;subst e1),"!Z",(by unfold Bl at h ⊢;obtain⟨a,vs,e,q,r⟩:=h),"!_",(by obtain⟨sl,e1⟩:=I.base.slot b o e n O L),"!`",(by obtain⟨a',b',c',e',hm⟩:=w.sgs x L q hq),"!c",(by show"!4";obtain⟨a,ws,rfl,q,rr⟩:=Cp rv),"!j",(by refine Qp h cn ?_;by_cases c1:i∈W.its),"!m",(by intro J s Z H R I ⟨G,ρ,M,T,st,e,k⟩),"!p",(by cases qO I n r ru<;>cases qO I n' r' ap),"!~",(by obtain⟨its,r,pl,hz⟩:=I.tuple hq),"#!",(by obtain⟨e,n,ne,nf,d⟩:=I.pin p hp),"##",(by obtain⟨_,vs,B,Y⟩:=m.cell a _ hM),"#&",(by rw[AI c];exact keep rfl rfl w.inv),"#'",(by obtain⟨a,vs,rfl,qa,ra⟩:=Cp rx),"#/",(by subst O;rw[mup_same]at e;cases e),"#3",(by obtain⟨ds,e1,e'⟩:=AB.mp e'),"#7",(by simp only[BI,BW,BY,L]at h ⊢),"#<",(by exact hR M rl _ _ st hL .refl),"#A",(by obtain⟨od,ac,hl⟩:=I.look),"#B",(by have c':=HB c;rw[AI c']at st),"#C",(by have c':=DH c;rw[AQ c']at st),"#J",(by simp only[AE,BO,DN,GO]at hc),"!!",(by dsimp only;refine' DL.b5v (DL.Jv KX G ?g) ?a ?i ?l ?c ?k ?mm ?kc ?b;(case g=>k_is);(case a=>k_is);(case i=>k_is);(case l=>k_is);(case c=>k_is);(case k=>k_is);(case mm=>k_is);(case kc=>k_is);(case b=>exact λ_ _ _ _ _ _=>DL.Yg λ_=>rfl)),"!8",(by obtain⟨ob,eo,ec,ed⟩:=id g1;obtain⟨ot,ym,_,nt,yn⟩:=g2;unfold Builtin.SmallTypes.nextOf;refine AA (CP (name:=ki!) g1.typeIs FZ (BX FZ g1.typeIs F.entry_tuple_iterator_next ?_ (F.args_tuple_iterator_next_1 _)));show wpAny _ _ (field oJ_ 0>>=_) _ _ s),"!9",(by refine Gn bY! λv s1 ⟨x,H1,I1,r1,q1⟩=>?_;refine Gn f5! λu s2 ⟨y,H2,I2,r2,q2⟩=>?_;exact hf v u s2 x y H2 I2 r1 r2 q2),"!<",(by intro J s Z H Q I h;refine W.methodCall_KW (pl:=pl) (Gn c2! λu s1 ⟨x,H1,I1,rx,a,dx,fs,ex,ea,l,q⟩=>?_) ht;subst ex;obtain rfl:u=Value.ref a:=rx;refine Zw I1 ea c hm l ?_),"!=",(by obtain⟨v,rfl,r1⟩:=Hl r;obtain⟨rfl,rfl,hM⟩:=Ft r1 e1;obtain⟨es,B,Y⟩:=((m.cell q.1 _ hM)).2;obtain⟨ys,g1,g2⟩:=rN Y),"!@",(by obtain⟨us,rv,p1,_⟩:=I.list qa;obtain⟨us',ao,p2,_⟩:=I.list qb;have B:=Aq rd;have Y:=Aq re;have h3:=dM_),"!A",(by show wpAny _ _ (Builtin.SmallTypes.ownedTupleIsFree dr_>>=_) _ _ _;refine AA ?_;unfold Builtin.SmallTypes.ownedTupleIsFree;refine AA (DU gz rfl (x:=.none) rfl ac_);simp only[CF]),"!D",(by have I1:Inv X J Z H {s with heap:=h'}:=I.turned (t':=s.toks) mf_ f0 f1 f3 f4 f5;obtain⟨o,e,c,d⟩:=id h1),"!E",(by show wpAny _ _ (field oJ_ 1>>=_) _ _ s;refine AA (DU eo ed (x:=.int n 0) rfl ?_);show wpAny _ _ (seqItems? (.ref tt)>>=_) _ _ s;refine AA (FQ ym yn ?_);simp only[FA,g3]),"!G",(by rintro⟨⟨⟩,h1⟩ s' ⟨rfl,a1,a2,a3⟩;dsimp only;obtain⟨L',b1,b2,b3⟩:=fS jp hk fq a1 a3),"!K",(by intro J s Z H x y v u Q I rx ry h;obtain⟨i,j,rfl,rfl,q⟩:=h;show"!?";obtain⟨t',rfl⟩:=ry),"!M",(by show"!1";obtain⟨kb,k8⟩:=Ex O;obtain⟨kc,zr⟩:=kM a8;refine Qh (Bq.trans (congrArg some Qn)) ?_;refine ifT (Bq.trans (congrArg some vO)) ?_),"!P",(by obtain⟨i,hi,q⟩:=Xm O;obtain⟨p,ds,vs,B,Y,h3,h4,h5⟩:=er.own_ i hi;rw[q]at Y;cases Y),"!S",(by have l1:=congrArg List.length e;have l2:=congrArg List.length e';simp[Rk]at l1 l2;omega),"!W",(by obtain⟨cl,bq⟩:=a9c (X:=X) (scope:=scope) λp hp hf=>I.ok.has p.1 (ic p hp hf)),"![",(by simp only[(show Builtin.Dict_items.ownsTuple "dict_keyiterator"=false by decide),BI,BW];show wpAny L! A.in1 (if(Value.ref d==cT!)=true then _ else _) _ _ s;rw[(AI (λz:(Value.ref d==Value.none)=true=>BC z))];refine AA (AC (AA (EL td tf ?_)));rw[Z!]),"!^",(by have hT:=az.typeIs;obtain⟨o,ho,hc,hd⟩:=id az;obtain⟨od,td,_,tf⟩:=id D),"!a",(by show (wpAny _ _ (field dr_ 2>>=_) _ _ _);refine AA (DU gz rfl (x:=.bool false) rfl ?_);show wpAny _ _ (field dr_ 3>>=_) _ _ _;refine AA (DU gz rfl (x:=.ref TI) rfl ?_);refine AA (FQ gI rfl ?_)),"!b",(by have I1:Inv X J Z H {s with heap:=h',toks:=tk}:=I.turned mh! f0 f1 f3 f4 f5),"!e",(by unfold wo;refine DD.mpr λq hq=>?_;simp only[ne_eq,decide_not,GR,EA,DZ]),"!f",(by obtain⟨o,es,ep,ho,r⟩:=hm;refine ⟨o,es,ep,kp _ o ?_ ho,r⟩;simp only[AE,BO,DN,GO];exact ⟨AK fz.2.1,AK fO.2.1,AK f1.2.1,AK f2.2.1⟩),"!g",(by obtain⟨gi,H3,I3,n3⟩:=q3;obtain⟨m',hm,w3⟩:=hN gi H3 n3;exact ⟨m',hm,gi,H3,I3,w3⟩),"!k",(by obtain⟨i,hi⟩:=FL.mp hv;obtain⟨d,_,p⟩:=Ms z hi;exact⟨_,_,p⟩),"!l",(by obtain⟨e,he,hv⟩:=hi.2 i acc[i] (by rw[BU B]);rw[he,ET,BU B,hv];rfl),"!n",(by have:X.env.scope.names.lookup x=some .free:=hk;rw[k]at this;cases this),"!o",(by have hf:=a1l x k;have hl:∀i∈plc es dv!,i<es.size:=λi hi=>b4o hi),"!q",(by obtain⟨hi,r1⟩:=r1;obtain⟨p,dx,vs,rfl,rfl,hH,hl⟩:=a0w m1 q1 hi),"!s",(by simp only[sliceBounds,HT.sIx,Option.getD_none,(show(1:Int)>0 by decide),CF];by_cases h:i<0),"!t",(by obtain⟨v,rfl,r1⟩:=Hl r;obtain⟨p,ys,rfl,q,rr⟩:=tG sub m r1 e1),"!v",(by show"!;";obtain⟨q,e2,e⟩:=AB.mp e;obtain⟨TL,e3,rfl⟩:=AO.mp e),"!w",(by show"!/";obtain⟨xs,hq,L⟩:=hg;obtain⟨its,rv,p,hz⟩:=I.list hq),"!x",(by obtain⟨e1,e2⟩:=B b O hr;obtain⟨e3,e4⟩:=Y b nK! e2;exact ⟨e3.trans e1,e4⟩),"!y",(by intro x L;obtain⟨r,f,p',g1,g2,g3,g4,g5⟩:=hA.row x L;exact nP_),"!z",(by show"!8";refine AA (DU eo ed (x:=.ref tt) rfl ?_);show wpAny _ _ (if(Value.ref tt==cT!)=true then _ else _) _ _ s;rw[(AI (show¬((Value.ref tt==Value.none)=true)from BC))];show"!E"),"!{",(by obtain⟨_,_,_,_,o,_,_,e,ex,_⟩:=I.hok p _ hk;exact⟨o,e,ex⟩),"#$",(by show"!1";refine Qh (Bq.trans (congrArg some Qo)) ?_;refine Qh (Bq.trans (congrArg some Ox)) ?_;refine ifT (Bq.trans (congrArg some vP)) ?_),"#%",(by show"!a";show"!A";refine AA hg_;refine AA (DU gz rfl (x:=.ref TO) rfl ?_);refine AA (FU gz c_ λB lj b6=>?_)),"#+",(by show(Wu ys).map (λbs=>D.bl ok_)=_;rw[nZ hr];show some (D.bl ((qT_).all id))=_;rw[(DQ.mpr λx L=>by obtain⟨_,_,rfl⟩:=AZ.mp L;rfl)]),"#,",(by show pk!=_;rw[AI h0,AI B,AI Y,AI x3,AI x4,AI x5,AI x6]),"#-",(by obtain⟨oc,od,kV,bo,pm,an,ae,ct,du,rfl,lk,bv⟩:=F.ex),"#.",(by have rs:∀j∈rest,j<es.size:=λj hj=>Y j (AD _ hj)),"#1",(by subst hj;rw[hi]at e1;cases e1;rw[CS LL]at e2;cases e2),"#5",(by unfold pyNext;refine AA (HF (CP (name:=ki!) hT DK (BX DK hT IZ ?_ (IU _))));refine AA (AC (AA gp_))),"#6",(by have ne:∀{b u},H b=some u->b≠p:=λe=>Ea e hp),"#8",(by rw[AN,AN,<-h3,<-h4,<-B,<-Y];by_cases hl:f_=af!),"#9",(by obtain⟨its,rv,⟨o,B,Y,n,h3⟩,_⟩:=I.tuple g4!),"#;",(by obtain⟨B,Y⟩:=hA.mq i hi;rw[aw _ pH_];exact pA!),"#=",(by show"!4";obtain⟨a,ws,rfl,q,rr⟩:=Cz rv;cases e),"#@",(by rename_i kvs ep hM;obtain⟨kk,e1,e2⟩:=AB.mp e),"#D",(by simp only[Op.nm,D.tup.injEq,IL,D.int.injEq]at e),"#E",(by rw[bX lr_,bX ls!];exact a6v (mm p hp) (mm q a9)),"#I",(by have hi:i=fn_:=Nat.le_antisymm st.1 hg;subst hi),"#K",(by obtain⟨ad,kvs,vs,j0,MV,yj,yk,hn,hs⟩:=hd.ex),"#L",(by cases Ip ry;cases e;refine m_;rw[qP rx];show"!u"),"#M",(by cases e;refine ⟨G,ρ,_,er,?_,k⟩;show((Option.some ds)).bind _=_;simp[hl])]
def z'0:String:=z [a!,(by omega),b!,(·.1),c!,(by decide),d!,Inv X J Z H s,e!,hr.mono c!,g!,List aA!,h!,Txt P w K mg t,i!,wl n!,j!,AQ rfl,k!,List Str,l!,Af E_,n!,Aa 0,o!,(by decide+kernel),p!,s.heap.objs.size,q!,["thing"],r!,(by omega),u!,wl s_,v!,Bf _,w!,some cn!,x!,Af V_,y!,.fn p,z!,some ax_,A!,arrOf h1,B!,Aa 5,C!,Str->Option Value,D!,List Int,E!,.bl true,F!,λ_=>True,G!,.int 0,H!,some x1,I!,.lst xs,J!,(by simp),K!,some x0,L!,model P w,M!,wl w_,N!,Dk 3,O!,(by rw[hA.ro];simp),P!,l.length,Q!,k+1,R!,DE X own a fa,S!,Dl 0,T!,[aX_,aN_],U!,Dq M w rl W,V!,fC bv_,W!,(by decide),X!,some (scr ns),Y!,(a,b),Z!,AI c_,Aa!,Ad g (Ad k An),Ab!,λd M1 v G1 H1 r1 x1 m1 q1=>?_,Ac!,⟨G,ρ,M,_,st,e',Ab!⟩,Ad!,(.tup xX_,.str ⟨#[s.cps.toList.getD k.toNat 0]⟩,true),Ae!,b1x X.prog X.w X.K X.mg X.base k x C ps g,Af!,.lst ((es!).take at_++nw.map Ci),Ag!,D.tup T!∉W.its,Ah!,(d==sysModules)=false,Ai!,s.heap.IsKeyIter it d i es.length ep,Am!,AC (AA (EN td tf ?_)),An!,AC (AA (JF hT ?_)),Ao!,Obj.mapFields (·.setIfInBounds 1 An_),Ap!,AI (λz:i=.tup [.int h,.int n]=>hn (z▸hi)),Aq!,(λi v=>∃c u,x.cps[i]?=some c/\v=.str am! u),Ar!,⟨same.rows,same.its,jy_⟩,As!,⟨_,s1,jD_⟩,At!,pV w x0 d nm,Au!,[lb!,.str ⟨#[q.1]⟩],Av!,X.mg "enumerate"=none,Aw!,Nat.succ_ne_self _,Ax!,[w!,X_,none,none,none,none,none,none,none,none],Ay!,[w!,X_,some o.d,none,none,none,none,none,none,none],Az!,IntsAre jo.toList ms,AA!,∀x,(kget wd x=none/\kget kb x=none)\/∃k:Str,kget wd x=some T_/\kget kb x=some fu!,AB!,.bl (if neg then !(b==c)else b==c),AC!,(by simpa using c'),AD!,Cb p6! wt D_,AE!,.dct (k3 bW_ kS! ep!) 3,AF!,AX.mpr ⟨BO,FX⟩,AG!,[bS_,w!,H_,none],AH!,s.cps.toList.map λ_=>.bl true,AI!,getElem?_pos _ k cv,AJ!,Qs [(t.B2,a)] (one ⟨_,i9,eZ B⟩) c_,AK!,(λi h4 h5=>by rw[show i=x+1 - 1 by omega]),AL!,mirror A! _ _ _,AM!,((hs os 0).length:Nat),AN!,((hs os 5).length:Nat),AO!,mirror B_ _ _ _,AP!,(by show¬((0:Int)=5);decide),AQ!,(by show¬((0:Int)=15);decide),AR!,(by show¬((5:Int)=0);decide),AS!,(by show¬((15:Int)=0);decide),AT!,(by show¬((15:Int)=5);decide),AU!,(none,a0.size),AV!,cs.set k (.int (c+1)),AW!,.int (t+1+m / 3%3),AX!,qZ (AC (AC (AC h))),AY!,(∀x∈xs,∀(R:β->Shared->Prop),(∀y,F x y->R y s)->wpAny n_ A (f x) R E s),AZ!,ys.toArray.filterMap id,A0!,(Value.type "int"::r),A1!,λa b e=>?_,A2!,l.filter λx=>Uv x q,A3!,PuT ft ρ M true,A4!,Str.ofString "ours",A5!,Str.ofString "waiting",A6!,(Str.ofString "taken",.fn ta),A7!,Cu (d:=k9_) rfl,A8!,Pp cq! (hA.nob hM1) (Cu (lU o)) (wE hA),A9!,Cb M a (.obj t.B3 []),Ba!,.obj t.B3 ll!,Bb!,(by show _<100;simp),Bc!,mup_ne (AK LB),Bd!,(c,seqObj "list" ku.toArray e),Be!,ksk_tail a false e1 (.ref c) st,Bf!,Cb M p (.lst (xs++[v])),Bg!,(by rw[hp];simp),Bh!,List.map_fst_zip qr_,Bi!,λv hv=>?_,Bj!,Hj t.B3 "outline" i! b1! hO_ M2 _,Bk!,λx y F Q L hy hq=>?_,Bl!,⟨Array.Perm.refl _,rfl,rfl,rfl⟩,Bm!,(by rw[hsz];exact nz),Bn!,⟨a1,a2,a3⟩,Bo!,[(.int o.h,.fn q)],Bp!,s.heap.get? a=some (seqObj "list" us.toArray n),Bq!,⟨_,IN ha λ_=>#[]⟩,Br!,GY ha rfl ?_ lo_ cL!,Bs!,wpAny_newTuple ?_ (by show ar!<=_;rw[CH];omega),Bt!,AG _ ((Bs_).trans q),Bu!,Cu (f:=Aa 0) rfl]
def z'00:String:=z [a_,Or.inl rfl,b_,List D,c_,(by simp),d_,Ag->Option D,e_,model X.prog X.w,f_,ds.length,g_,⟨rfl,rfl,rfl,ez_,rfl,ez_,ez_⟩,h_,List Value,i_,xs.length,j_,List Nat,k_,List V,l_,List ex!,m_,⟨rfl,?_⟩,n_,model prog w,o_,List Op,p_,Value->Shared->Prop,q_,Fl->Mh->Prop,r_,λ_ _=>rfl,s_,Aa 1,t_,fC aS_,u_,some dh_,v_,D->Mh->Prop,w_,Aa 2,x_,AY _,y_,Ax.units hr,z_,s1.heap.objs.size,A_,(·.2),B_,arrOf st,C_,fC G!,D_,.dct [] 0,E_,Ab 0,F_,(x==("__debug__":Str))=false,G_,Aa 3,H_,some y!,I_,some i,J_,⟨_,rfl⟩,K_,List α,L_,Cr G H,M_,ys.length,N_,s2.heap.objs.size,O_,Aa 4,P_,Ck y_,Q_,Af ak_,R_,Gl X x,S_,ps.length,T_,.str k,U_,[aj!,as_],V_,Ab 1,W_,List D->Option D,X_,some o.v,Y_,AQ a!,Z_,oF a1 a2 a3 a4 a5 a6,Aa_,Hv X.prog X.w X.K X.mg X.base k C m ps g,Ab_,[w!,K!,fH!,bn_,y4,hI_,some G!,none,none,none],Ac_,[w!,K!,fH!,bn_,y4,hI_,pX!,y,none,none],Ad_,[aX_,aN_,.int aZ!],Ae_,.lst ((es!).drop at_),Af_,.lst ((wrT b nw ap!).map Ci),Ag_,decide (a=root),Ah_,p1 (k:="put") (a:=a) (r:=[b]) rfl,Ai_,.dct (er_++[(.tup T!,.lst [])]) (Lk er_ ae! e1),Al_,.dct (hK!++[(.tup T!,.fn q)]) (Lk hK! ae! e2),Am_,(show¬((i:Int)<0)from by omega),An_,rawInt ((i:Int)+1),Ao_,W.its++[D.tup T!],Ap_,s0.heap.objs.size,Aq_,⟨by show _<=_;simp only;omega,same.its,same.txt⟩,Ar_,(∃ah,IsEnum h e it i ah),As_,D X.A.in1 hh,At_,(by show 2<=sizeLine;rw[CH];decide),Au_,Gl X "enumerate",Av_,.Call (.Name "enumerate" p) [a] [] pos,Aw_,λb O=>I1.fpOk (jl b O) (I1.hok.fresh (jl b O)),Ax_,λi h ⟨o,ho,_,hd⟩=>⟨o,ho,λv z=>by rw[hd]at z;cases z⟩,Ay_,IntsAre items.toList ns,Az_,∀K:Bool->Mh->Prop,K b M->ft ρ M K,AA_,Mf x.d=none/\¬kget wd x.nm=some b2_,AB_,Value.bool b==Value.bool c,AC_,(by rw[y4!];exact g4),AD_,Cb AD! wn D_,AE_,.Call (.Attribute bo_ "insert" ag) [ek,e] [] ab,AF_,.Call (.Attribute bo_ "extend" ag) [e] [] ab,AG_,⟨by rw[AU];unfold big;omega,?_⟩,AH_,mirror xs i j ((j - i) / 2),AI_,λi j h3 h4=>?_,AJ_,(show x - 1<a0.size by omega),AK_,(by simpa using c),AL_,h m st b h3 h4 u,AM_,λi j h5 h6=>?_,AN_,((hs os 15).length:Nat),AO_,(∀i,i<lo->rk r A! i<=rk r A! k),AP_,⟨rfl,lo,lo,rfl,g2,g4,g5⟩,AQ_,bubble dA_ k (k - lo),AR_,(by show¬((5:Int)=15);decide),AS_,pendingOf h1,AT_,f2 Hw B! G_,AU_,fx ρ=some dk!,AV_,λ_ _ z=>z,AW_,ts.set k AW!,AX_,Mm rfl (Mm rfl rfl b5t) rfl,AY_,λv hv R hR=>?_,AZ_,[X!,ao_,hM_,lg_,some (.lst [.int c0,.int c1,.int c2]),some (.lst [.int t0,.int t1,.int t2]),x6,x7,x8,x9],A0_,[X!,ao_,hM_,none,none,none,none,none,none,none],A1_,l.filter λx=>Uv x p,A2_,λp=>Qx qi_ (Wh h p.1),A3_,B.mem_iff.mp (CO cv),A4_,Str.ofString "taken",A5_,⟨[a],[(Str.ofString "key",v)]⟩,A6_,Km X.prog X.w X.K X.mg X.base iL k f fd ps wo_,A7_,(c,seqObj "list" ku.toArray n),A8_,Cu (d:=.int 1) rfl,A9_,.obj t.B3 [fO_],Ba_,mup_ne (AK xb),Bb_,.obj t.B3 ll_,Bc_,∀H':Hp,H' c=none->Qk X J H' c,Bd_,Inv X (J++[lp_,Bd!]) Z H s,Be_,Obj.mapSeq λ_=>(#[]:Array Value),Bf_,Cb fQ_ p (.dct (Bi kvs y bl!) bc!),Bg_,(by rw[hA.cl h hh];simp),Bh_,Array.toList_inj.mp,Bi_,.lst ((lo!).map Op.v++[o.v]),Bj_,Wh s.heap p.1,Bk_,mup_ne (AK at_),Bl_,(by rw[hsz];omega),Bm_,mup_ne (AK aw),Bn_,Qx hR_ (Wh s.heap p.1.1)<Qx hR_ (Wh s.heap q.1.1),Bo_,(by rw[b3,hd]),Bp_,.dct (fP!++Bo!) bc!,Bq_,IY ha rfl ?_,Br_,seqEpoch_at t3 rfl ?_,Bs_,CT _ _ (λz=>O (by rw[z];exact AV.mpr rfl)),Bt_,[u_,none,none],Bu_,hR M' g7 g8 iw]
def z'a:String:=z [aa!,List DictEntry,ab!,Array Value,ac!,p!+1,ad!,List dZ_,ae!,.tup T!,af!,es.length,ag!,[a,b],ah!,f ρ,ai!,(by rw[u3];simp),aj!,"self",ak!,wl O_,al!,Ab 5,am!,⟨#[c]⟩,an!,Ag->Option aG_,ao!,A.units<cLine,ap!,W.txt a,aq!,some bl!,ar!,us.length,as!,List Env,at!,"hand",au!,[at!,cs_],av!,fC aC_,aw!,Af Ae,ax!,W.rows.length,ay!,some x,az!,(by rw[hA.r6];simp),aA!,D×D,aB!,kvs.length,aC!,r.length,aD!,Aw aM!,aE!,AI hk,aF!,Af by_,aG!,Ep t M o rl W hb,aH!,[cu_],aI!,(by rw[u5];simp),aJ!,X.A.units+64<cLine,aK!,"item",aL!,λ_=>some true,aM!,Aw (λ_ _ h=>By h),aN!,Rk xs,aO!,(by rw[hA.r5];simp),aP!,Ed.refl sub,aQ!,os.length,aR!,[aj!],aS!,[at!],aT!,Af Be,aU!,.lst ys,aV!,.fn r,aW!,(by rw[hA.r3];simp),aX!,D->D->Option D,aY!,.rt d,aZ!,((k:Nat):Int),a0!,PE X a ta,a1!,Ad n! An,a2!,i+1,a3!,f2 Ar w_ av!,a4!,Av Ap At E_ Ae r_,a5!,Do P_ Cj l! aT! r_,a6!,Av Ap At ak_ Ae r_,a7!,Option Int,a8!,.type "list",a9!,Kk W n rows']
def z'aa:String:=z [aa_,ME X own a fa,ab_,.ref a,ac_,AC ?_,ad_,Option D,ae_,D->Ag->Option Ag,af_,.ref f,ag_,Ag->Option Bool,ah_,s.length,ai_,X.N[i]?=some x,aj_,wl G_,ak_,Ab 2,al_,starEach aK_ X.env=eT_::starEach es X.env,am_,λi hi=>(by cases hi),an_,.nx ρ,ao_,some kg_,ap_,os.map Op.v,aq_,rs.length,ar_,List Addr,as_,"name",au_,.bl false,av_,.ref C,aw_,Af aE_,ax_,.fn o,ay_,(by rw[hA.r2];simp),az_,some (.lst ops),aA_,.fn a,aB_,.inl rfl,aC_,.int 3,aD_,Dt y_,aE_,Ab 3,aF_,W.txt x,aG_,List D,aH_,(by rw[u4];simp),aI_,Ag->Option Fl,aJ_,EP X J Z Q,aK_,(e::es),aL_,wl C_,aM_,Gw 0,aN_,.int n,aO_,⟨trivial,?_⟩,aP_,List ci_,aQ_,its.toArray,aR_,[aj!,aK!],aS_,.int 1,aT_,(vp!).any b!=false,aU_,λx L=>?_,aV_,.fn o,aW_,(by rw[hA.r4];simp),aX_,.int h,aY_,Pd ops,aZ_,[f2_],a0_,I.tok _,a1_,f2 Ar n! C_,a2_,Dk 2,a3_,Ac i! Al,a4_,.type "str",a5_,AQ hk,a6_,Option Addr,a7_,its.toArray.size,a8_,(x,p),a9_,hb+20]
def z'b:String:=z [ba!,.str s,bb!,Str.ofString "",bc!,ep+1,bd!,d+1,be!,.int i,bf!,"_law_one",bg!,I.ok.hd hc,bh!,Aa 6,bi!,.Call (.Name x p) aK_ [] pos,bj!,w2 Ec i! (wl (fC na!)),bk!,List e8!,bl!,.fn q,bm!,λb h=>?_,bn!,Or.inr rfl,bo!,.int 0,bp!,some (.int most),bq!,mup_ne O,br!,[K!,I_,cc_,cI_,fE!,kK!,y],bs!,fs.length,bt!,X.N.Nodup,bu!,Dm v u,bv!,"_law_item",bw!,Pz false,bx!,Aa 7,by!,vs.length,bz!,Af a6!,bA!,Ai st,bB!,.type "int",bC!,.type "tuple",bD!,n+1,bE!,.int o.h,bF!,[w!,K!,some ee_,bn_,some (.bl g),none,none,none,none,none],bG!,k _ _ aB_ e,bH!,List Stmt,bI!,[at!,lT_],bJ!,(by simp;omega),bK!,Cn u!,bL!,Ab 6,bM!,Array DictEntry,bN!,Gg st,bO!,(by rw[hA.r1];simp),bP!,.int m,bQ!,M p=some hz!,bR!,some (.int m0),bS!,[H!,H_,X_],bT!,Fy X.K G d u,bU!,ME X own e f,bV!,Mh->D->D->Option D,bW!,u.length,bX!,Rj P w K own M0 G0 F0 M G H Z ρ,bY!,ha J s Z H _ I h,bZ!,"_law_world_here",b0!,fC (.int 4),b1!,wl cf!,b2!,Aa 8,b3!,Ah E_ Au,b4!,wl eM!,b5!,Ab 8,b6!,Ax k X.A,b7!,Kl (Cw aD_ Du a6! Be v!),b8!,vs.toArray,b9!,absurd z.symm q1]
def z'bb:String:=z [ba_,(λ_ _ e=>by cases e),bb_,List MK,bc_,.tup xs,bd_,.int i,be_,"_law_k",bf_,X.calm=true,bg_,λb O=>?_,bh_,[dT!],bi_,Aa 9,bj_,u++v,bk_,chl W.rows x,bl_,W.txt i,bm_,i∉own,bn_,some ae!,bo_,.Name x b8,bp_,Ha d=some k,bq_,.fn w,br_,mixKind P w,bs_,cX P w H h,bt_,Loc X.env.scope x,bu_,List Expr,bv_,.int 2,bw_,g i j,bx_,f2 Ar w_ C_,by_,Ab 4,bz_,⟨_,_,rfl⟩,bA_,(i,p),bB_,.type "bool",bC_,(by rw[v3];simp),bD_,(d,x),bE_,if _ then _ else _,bF_,Fg t M a ta wa out S kl ca,bG_,[cs_],bH_,.bl b,bI_,"_law_script",bJ_,⟨rfl,rfl⟩,bK_,Jd I q c_,bL_,[D.non],bM_,K w.params,bN_,Addr->dB,bO_,ρ.set i d6!,bP_,.ref σ,bQ_,AD _ L,bR_,λd hd=>?_,bS_,some hq_,bT_,MR P w K M G H,bU_,q1.mono x2.g,bV_,MR X.prog X.w X.K M G H,bW_,.lst [],bX_,AV.mp z,bY_,"outline",bZ_,[bZ!,bv!],b0_,.ref it,b1_,Ac u! Al,b2_,.str "undo",b3_,Md X (compareOp op) r,b4_,Ac i! b1_,b5_,.ref p,b6_,Oe y_,b7_,Array tS!,b8_,ns.map V.int,b9_,(by rw[q];simp)]
def z'c:String:=z [ca!,scope.names,cb!,aC X scope cl C gL_ al bc fp,cc!,mup_ne B,cd!,.lst ds,ce!,OR K own G H Z ρ,cf!,fC .non,cg!,cs.length,ch!,wl fo,ci!,Co d=true,cj!,some oy!,ck!,[.lst cM_],cl!,x1.trans x2 m1,cm!,M a=some hz!,cn!,.fn w,co!,acc.length,cp!,Array Keyed,cq!,Cu rfl,cr!,seqObj "list" #[] 0,cs!,(·++·),ct!,PE X b tb,cu!,x≠"__name__",cv!,PE X e te,cw!,List V->Hp->VK->Prop,cx!,ns.length,cy!,Ab 7,cz!,Dk 6,cA!,.ref p!,cB!,λx=>!x.1,cC!,λx=>x.1.isSome,cD!,wo rows i,cE!,im x,cF!,mup_ne Y,cG!,H p=none,cH!,.Name x p2,cI!,if Kh W a then a else Di,cJ!,(by rw[v4];simp),cK!,(.str k::r),cL!,CI _,cM!,.type "tuple",cN!,λz=>?_,cO!,Cb M p D_,cP!,Mh->Prop,cQ!,[some hH!,k5!],cR!,oE W hb,cS!,λx L hh=>?_,cT!,Value.none,cU!,h.objs.size,cV!,upd H a o,cW!,BF e,cX!,.inl rfl,cY!,[aj!,aK!,"parent","sibling"],cZ!,(x==("__classdict__":Str))=false,c0!,[bI_,be_],c1!,[bZ!,bv!,rD_,rE!],c2!,he J s Z H _ I h,c3!,Bv V!,c4!,Ad s_ An,c5!,Ac M! Al,c6!,((0:Nat):Int),c7!,Ad w_ An,c8!,⟨rfl,rfl,rfl,rfl⟩,c9!,vs++dvs]
def z'cc:String:=z [ca_,⟨rfl,h⟩,cb_,x∈W.its,cc_,some p,cd_,some nR_,ce_,Bl K G d v,cf_,DE X own b fb,cg_,.tup jP_,ch_,[none],ci_,Str×D,cj_,[aX_,d8!],ck_,Ha y=some k,cl_,ME X own b fb,cm_,l[j],cn_,ME X own o fo,co_,.nx ρ',cp_,SB kd a0 st,cq_,(s.heap.update a Be_).push (seqObj "tuple" us.toArray 0),cr_,λp hp=>?_,cs_,"operation",ct_,X.mg x=none,cu_,"_law_ops",cv_,Bu t.B4 "rows" i!,cw_,y.length,cx_,Af Gx,cy_,Ab 9,cz_,Ak x! Bd,cA_,nk_=true,cB_,backToKw ab tn_,cC_,.inl z,cD_,(s,p),cE_,us.toArray,cF_,Bc K H ds vs,cG_,f ρ=some d,cH_,λd hd=>?_,cI_,some s,cJ_,(by rw[v5];simp),cK_,some item,cL_,(ku_).Nodup,cM_,ops.map Op.v,cN_,Addr->LR,cO_,(by rw[AU];unfold big;omega),cP_,((i:Nat):Int),cQ_,[w!,K!,z5_,fG_,y4,some k4!,hE_,kK!,none,none],cR_,lo+hi,cS_,Fy X.K G,cT_,(by simpa using e),cU_,α->β->Prop,cV_,[a,b,c],cW_,Unit->Shared->Prop,cX_,List V->Hp->Prop,cY_,Vis X.env.scope x,cZ_,.Name x pos,c0_,"_law_number_here",c1_,Tr W.rows,c2_,Cv (fC au_),c3_,eval o X.env,c4_,Bu t.B5 "following" i!,c5_,.ref p!,c6_,∀x,foldedSetIterable iter X.env x=pure x,c7_,Iu Ae,c8_,ps.zip us,c9_,⟨us,[]⟩]
def z'd:String:=z [da!,items.size,db!,Ak l! cz_,dc!,Ch T.U0 T.U1 l!,dd!,dF _ _ jB!,de!,(c,x),df!,scope.kind=.function,dg!,X.pn++J,dh!,Kh W x,di!,.tup ds,dj!,λq hq=>?_,dk!,.int j,dl!,DE X own e f,dm!,.str s,dn!,Ha a=some ka,do!,[z!,dn_,some a,ea!,some pl],dp!,λb h=>.inl h,dq!,AQ dp_,dr!,some 1,ds!,.Tuple fm n1 tp,dt!,yB W x,du!,λ_ K hK=>?_,dv!,mkHash P w k,dw!,λx L=>fw_,dx!,aB!<big,dy!,[K!,I_,cc_,cI_,fE!,hE_,kK!],dz!,dE d es ep,dA!,a2l prog w A s a0 kd r,dB!,Int×Int,dC!,.int i t,dD!,a==sysModules,dE!,Hist ms,dF!,EQ _,dG!,some v,dH!,Bool->Hp->Prop,dI!,.str x,dJ!,.Compare a [op] [b] pos,dK!,f2 Ar n! t_,dL!,.fn t.A0,dM!,.str "cut",dN!,some rI!,dO!,⟨_,dN_,rfl,rfl⟩,dP!,f2 Ar w_ V!,dQ!,xs.isEmpty,dR!,Bu t.B3 "taken" i!,dS!,List (Str×Value),dT!,.ref a,dU!,Js X.K fd ps ds,dV!,Wx CX X E,dW!,Am (Dd x!),dX!,Ak Q_ Bd,dY!,Ic t M r f p xs,dZ!,As N ps bA!,d0!,chl rows x,d1!,a∈W.its,d2!,Str.ofString "texts",d3!,AQ bJ!,d4!,(by rw[hr];simp),d5!,(by rw[g4];simp),d6!,some d,d7!,i∈own,d8!,.int m,d9!,Pb X.K r g]
def z'dd:String:=z [da_,Ak l! Bd,db_,Dk 7,dc_,⟨_,e,rfl⟩,dd_,dF _ _ e9_,de_,Hg X scope NF ix,df_,∀y∈ca!,y.2≠.cell,dg_,Str.ofString "rows",dh_,.fn a,di_,(by rw[g3];simp),dj_,.lst vs,dk_,er.grow s1,dl_,s1.trans s2,dm_,.Name x p2,dn_,some n,do_,scr ns,dp_,(by unfold big;omega),dq_,Ir d d',dr_,.ref z,ds_,pX W pre,dt_,⟨by simp[big];omega,?_⟩,du_,No ks k,dv_,[H!,H_,aq!,X_,hr_],dw_,kget kvs d,dx_,rs[k],dy_,[w!,I_,ay!,cI_],dz_,λc=>?_,dA_,arrOf bg,dB_,hF ta wa out,dC_,Str×V,dD_,List β,dE_,ms.map Op.v,dF_,X.s₀.heap.objs.size,dG_,["sign"],dH_,l.map D.str,dI_,behindInMarks op b=false,dJ_,f1 Dh a1!,dK_,f2 Ar n! V!,dL_,Nat->Heap->Prop,dM_,rv.length,dN_,BD _ rfl,dO_,(false,eval a X.env),dP_,i.natAbs,dQ_,.dK kvs,dR_,Sem Bool,dS_,Cls X.K C,dT_,Km X.prog X.w X.K X.mg X.base CX k f fd ps sp,dU_,Ce dvs ds,dV_,.ref b,dW_,z.length,dX_,([]:List Keyword),dY_,kput_len _ _ _,dZ_,D×D×Bool,d0_,AD _ hy,d1_,Str.ofString "parents",d2_,aC X scope cl G2.objs.size gL_ s2 H2 fp,d3_,i∈W.its/\Kh W x/\¬Wn W.rows i x,d4_,(d::ds),d5_,(by rw[g5];simp),d6_,.tup jK_,d7_,List.range m.toNat,d8_,fa ρ,d9_,sgn h n]
def z'e:String:=z [ea!,some b,eb!,.lst wq_,ec!,.dct (Bi k4 n bl!) e4,ed!,k _ G H aP! Bl.bl,ee!,(by simp;omega),ef!,.tup [.str "cut",a,.tup jK_,d8!],eg!,Sum.inr y,eh!,.int v,ei!,AQ (by simp only[AJ];omega),ej!,j7_<64,ek!,some o.v,el!,(none,()),em!,wl fa,en!,[H!,z!,aq!,some x.v,some x.nm],eo!,.int o.tm,ep!,.fn wn,eq!,[some ep_,ay!],er!,[bD_],es!,(ap!).map Ci,et!,j - 1,eu!,Cu (d:=bo!) rfl,ev!,List dC_,ew!,(fW_).zip ds,ex!,Addr×Obj,ey!,Cu (d:=aV_) rfl,ez!,Nat×D,eA!,Str.ofString " ",eB!,Ce vs us,eC!,.BoolOp .And (a::b::rest) pos,eD!,.BoolOp .Or (a::b::rest) pos,eE!,"_law_deed_here",eF!,cG i,eG!,Uj 0 1,eH!,.int j,eI!,Value->Value->Sem Value,eJ!,binaryOp .Add,eK!,Az 2 Jg,eL!,Cn M!,eM!,f2 Ar w_ t_,eN!,x.length,eO!,some af_,eP!,Bu t.B3 "waiting" i!,eQ!,Ah V_ Au,eR!,.ins C dx fs,eS!,λ_=>rfl,eT!,backToKw pos tn_,eU!,Zn y_,eV!,PA X aK_ t,eW!,A.handled=none,eX!,.builtin id,eY!,Et (Ba 1 Hu a3_),eZ!,f1 Dh gh_,e0!,Bv B!,e1!,Ch T.T9 T.U4 l!,e2!,if(dX_).isEmpty then 0 else 1,e3!,xs++[y],e4!,Bi l d v,e5!,λa b=>?_,e6!,Bi kp n a0,e7!,Cr H H',e8!,Str×Addr,e9!,D×D×Bool]
def z'ee:String:=z [ea_,s.cps.toList.zipIdx.map d9_,eb_,Cb (Cb M5 a3 n6!) q eb!,ec_,k _ G H aP! Bl.int,ed_,λx fg hy=>?_,ee_,.tup [j5!,a,b],ef_,Bl X.K H d v,eg_,DX ..,eh_,.tup cK!,ei_,(o6!).Nodup,ej_,Bool->Shared->Prop,ek_,Sy P w s.heap k u,el_,{s with toks:=tk},em_,l.map b!,en_,A.units+1<cLine,eo_,some bW_,ep_,Cs q,eq_,rs.map Cs,er_,W.its.map λi=>(i,D.lst kS_),es_,hb<3800,et_,(a,oa),eu_,Px g,ev_,es.map kz!,ew_,some lA_,ex_,OS t M a o rl W,ey_,Z.set i dG!,ez_,(by decide+kernel),eA_,eval e X.env,eB_,.BoolOp .And (b::rest) pos,eC_,.BoolOp .Or (b::rest) pos,eD_,.UnaryOp .Not a pos,eE_,T.T bd!,eF_,[v,ov,iv],eG_,[w!,H!,gd_,ip!,ip_,gZ!,aq!,some ib!],eH_,Bu t.B4 "texts" i!,eI_,Dk 4,eJ_,(show false=true from hs),eK_,Az 4 (wl (Je G_ Bw c3!)),eL_,.str "put",eM_,Bt (Da On),eN_,λ_ _ _ _ _=>qV,eO_,Ch T.T8 T.V0 l!,eP_,s.heap.push iO!,eQ_,wl s2_,eR_,Ah ak_ Au,eS_,FF _,eT_,(false,eval e X.env),eU_,us++ds,eV_,Av Ap At V_ Ae r_,eW_,CD gz!,eX_,.type T,eY_,.str "rows",eZ_,Go 3,e0_,Bv bh!,e1_,⟨.bl _,H,I,rfl,?_⟩,e2_,its.length,e3_,⟨e,?_⟩,e4_,Rv aN!,e5_,Bi kf a0 n,e6_,.ref fa,e7_,W.num x,e8_,List vs_,e9_,.inr z]
def z'f:String:=z [fa!,Str.ofString "numbers",fb!,⟨1,?_⟩,fc!,V.ref a,fd!,Cr.refl G,fe!,.int y,ff!,Uq own Z G H,fg!,fs ρ,fh!,(λz=>nomatch z),fi!,f1 ρ=some a,fj!,⟨G,ρ,_,er,e1,wg_⟩,fk!,Eb.mp hc,fl!,.tup w2!,fm!,(by show A.units+1+Hx xs<cLine;omega),fn!,Hh N,fo!,some (.lst kinds),fp!,Option Value->Shared->Prop,fq!,λc hc=>?_,fr!,h.Ns mainGlobals mg,fs!,λ_=>true,ft!,BK rfl,fu!,.bl hm_,fv!,(∀b,b≠p->M' b=M b),fw!,mup_ne O,fx!,.fn a1,fy!,Ha x=some k,fz!,Nz P w K G kvs es,fA!,Bool->Mh->Prop,fB!,h3.typeIs,fC!,some (.lst zh!),fD!,Ha y,fE!,some (.lst eq_),fF!,[w!,I_,cc_,cI_,fE!,hE_,y],fG!,[w!,ay!,I_,y],fH!,some fl!,fI!,[w!,K!,some ee_,bn_,none,none,none,none,none,none],fJ!,[H!,w!,H_,some x.v],fK!,Keyed->Int,fL!,n<=a0.size,fM!,⟨_,i1,Zz B⟩,fN!,Jj B,fO!,L'.length,fP!,kl.map λh=>(D.int h,D.fn hN_),fQ!,((lo!).length:Nat),fR!,S.length<64,fS!,a==b,fT!,Ce xs us,fU!,tupleKind br_,fV!,ms.map λo=>hT!,fW!,us.toArray.zip cE_,fX!,((ew!).map A_).map aI,fY!,Bn (Ea q hn),fZ!,List α->Prop,f0!,(by simp[z]),f1!,Cu (d:=x) rfl,f2!,["parts","checks"],f3!,"other",f4!,[aj!,as_,aK!],f5!,O J s1 Z H1 _ I1 q1,f6!,[bY_,as_,"deed"],f7!,[aj!,f3!],f8!,v != 0,f9!,[lZ!,c0_]]
def z'ff:String:=z [fa_,[aV_,x],fb_,Ha i=some ki,fc_,upd H p o,fd_,hb+1,fe_,.int x,ff_,(by rw[q3];simp),fg_,sub.free hp,fh_,if x=n then _ else _,fi_,f2 ρ=some b,fj_,SR K own G0 F0 G H Z ρ,fk_,V.ref p,fl_,Co d'=true,fm_,cs.map λc=>(am!:Str),fn_,x.cps.size,fo_,h5.objs.size,fp_,[z,TO,i1,i2],fq_,K.In h,fr_,List a2i,fs_,(aY_).map Op.v,ft_,AW c_,fu_,λi hi=>?_,fv_,λx L=>hd x bQ_,fw_,(by simp[W0]at L),fx_,Dg d1_ fx! [],fy_,kvs.map b!,fz_,Py kvs,fA_,Ek h5,fB_,.int (k:Nat),fC_,eqW X.K H dx,fD_,qa i,fE_,st.grow x1 m1,fF_,q.1=x,fG_,some nm,fH_,[some hH!,fH!,bn_],fI_,fo ρ=some y!,fJ_,(by unfold B60;omega),fK_,wpS_get ?_,fL_,(t.A0,a),fM_,(show i=j by omega),fN_,List hN!,fO_,(Str.ofString "ours",.int 3),fP_,AS _ (AS _ c_),fQ_,Cb M q bW_,fR_,Fy K G,fS_,Fg t M a ta wa out [] [] ca,fT_,xs++ys,fU_,.ref x,fV_,p3_<64,fW_,us.zip us,fX_,Cu (d:=.fn p) rfl,fY_,.frz o u,fZ_,Z.length,f0_,.own a,f1_,["thing","limit"],f2_,"operations",f3_,Int×Nat,f4_,[aj!,aK!,"parent"],f5_,[aj!,aK!,"place","number"],f6_,[aj!,"ours"],f7_,[at!,f3!],f8_,PT X a tA,f9_,[bZ!,bv!,"_law_deep"]]
def z'g:String:=z [ga!,X.wish E,gb!,.str "root",gc!,PassesOwn e_ X.A X.env X.xe,gd!,It->Hp->Prop,ge!,(by simpa using O),gg!,Gc (Gb (fT iq!) (fT pj!)),gh!,(∀b∈fp,H' b=none),gi!,[K!,H!,gd_,some ms_],gj!,[X!,none,none,none],gk!,wl dP!,gl!,Ac b4! (Ac gk! (Ac (wl a3!) Al)),gm!,List (κ×V),gn!,toString i,go!,Nf Al,gp!,Bu t.B3 "outline" i!,gq!,Af a4!,gr!,Ah tg! Au,gs!,Cw aD_ Du cy_ Be v!,gt!,getMethod ov m pl,gu!,.str "",gv!,Ad a1_ (Ad dK! An),gw!,I.hok.fresh x_,gx!,envOfC qual scope s.heap.objs.size f cd,gy!,Yi N vs,gz!,(by simpa using hi),gA!,.int a t,gB!,w2 bw! b4! bj!,gC!,.str am!,gD!,eqU x,gE!,.inr rfl,gF!,Ch T.T8 T.V2 l!,gG!,.bool true,gH!,Am Rx,gI!,W.keepIn K af_=true,gJ!,gW rows i p s rows',gK!,(by rfl),gL!,bq.sub x c h,gM!,pY t M o rl W hb a1 a2 a3 a4 a5 a6 k1 k2 k3 k4 k5 k6,gN!,x∈W.its,gO!,∀y∈ca!,y.2=.free->vN!,gP!,ff _ I2.lt,gQ!,Bl K H d v,gR!,w.nm i hi,gS!,hb<3900,gT!,(by simp[e]),gU!,(by rw[q5];simp),gV!,λ_ _ _ h=>h,gW!,r1.mono s2.g,gX!,ft ρ,gY!,.tup T!,gZ!,some ba!,g0!,.dct n5! e2,g1!,mup_ne h6,g2!,Ed.laid sub hp,g3!,if x=x then _ else _,g4!,Df sub q,g5!,(d+1,c),g6!,er.grow x,g7!,BA.mp B,g8!,.int k,g9!,nW F0 G1]
def z'gg:String:=z [ga_,fC (.int 16),gb_,fC (.str " "),gc_,Pc t,gd_,some x2,ge_,pZ (Ss 1 An),gf_,2 ^ 62,gg_,Az 1 ml!,gh_,Ad O_ An,gi_,λρ M R=>R true M,gj_,f2 Ar a3! C_,gk_,Dy Ff Jr rfl T.Q5 Ix b3!,gl_,i != 0,gm_,.str "write",gn_,i.natAbs.log2,go_,.int n,gp_,AA ?_,gq_,Rw T,gr_,Qf (n:=9) rfl,gs_,ag.atName,gt_,Ax k A,gu_,PA X es t,gv_,Ax Q! X.A,gw_,Af iX_,gx_,Af eV_,gy_,Ak bz! (Ak bz! i2!),gz_,λ_ _ _ _ _=>a0d,gA_,a1x xs lo hi,gB_,.str am!,gC_,f2 Ar s_ V!,gD_,[.ref p],gE_,Mg l d,gF_,absurd z.symm q2,gG_,wD aj.heap H,gH_,K.f _ _,gI_,NameKind.free,gJ_,i∈W.its,gK_,AQ gK!,gL_,NL++NF,gM_,.ListComp dm vG_ scope pos,gN_,G2.objs.size,gO_,∀cl C al bc fp,PG cb! tg g,gP_,(λr M'=>match r with|.rt d=>R d M'|.nx _=>R .non M'),gQ_,ρ.length,gR_,.tup jK!,gS_,[fe_,fe!,.int (z+(k:Nat))],gT_,(by rw[q4];simp),gU_,Ed.refl er.sub,gV_,fb ρ,gW_,s2.trans s3,gX_,DT X own a ft,gY_,s.cps.toList.length,gZ_,DA X own aK_ fs,g0_,(by rw[z]),g1_,k _ G H aP! Bl.str,g2_,.type "NoneType",g3_,Kk W x rows',g4_,.obj C fs,g5_,Ed.laid x.sub hp,g6_,Bc K G ds vs,g7_,(backTo ab tB!).any b!=false,g8_,(aC!:Int),g9_,.tup [ov_,a,b,c]]
def z'h:String:=z [ha!,.tup [.str "drop",a],hb!,Bc X.K H ds vs,hc!,Bl X.K H d' v',hd!,(if _<=big then _ else none)=_,he!,(·.length),hf!,fs ρ=some ds,hg!,s.heap.IsTuple l2 ys,hh!,Cm uk,hi!,zp5 s.heap l1 l2,hj!,λc o e=>?_,hk!,q2 ρ M R,hl!,λK hK=>hK,hm!,.int o.h,hn!,(show v=.none from hy),ho!,ks.Nodup,hp!,∀o∈ops,DG o.d,hq!,Yb ks k,hr!,wl fb,hs!,.inl e9_,ht!,λq hq=>?_,hu!,.fn a2,hv!,"texts",hw!,f ρ M R,hx!,OpM X.prog X.w X.K r gm,hy!,MT X own a ft,hz!,.dct kvs ep,hA!,dR I sub r hk,hB!,wl b2!,hC!,k3 (.lst kR_) kS! ep!,hD!,MA X own aK_ fs,hE!,Il M1 d,hF!,kget kvs y,hG!,Cb M p (.dct (Bi kvs y v) (Lk kvs y ep)),hH!,.int aZ!,hI!,.lst cp,hJ!,some (Ci q),hK!,W.its.map λi=>(i,D.fn fD_),hL!,a0.toList,hM!,x - 1,hN!,Int×Int,hO!,some (.int h),hP!,ku.zip us,hQ!,seqObj "list" us'.toArray n',hR!,(hP!).zip ds,hS!,.int k,hT!,(o.nm,o.v),hU!,[u_,H!,H_,X_,hr_,y5],hV!,acc.toList,hW!,[aA_,.lst dE_],hX!,.own x,hY!,Cu (d:=aA_) rfl,hZ!,H a=none,h0!,Qv iC ms,h1!,I.ok.bs b o e,h2!,BF ho,h3!,(∀x c,X.env.cells.lookup x=some c->c≠b),h4!,vb b o e L,h5!,λz=>hc f0!,h6!,λ_ _ e=>e,h7!,λm hm=>?_,h8!,hb+1 - rk x,h9!,⟨by simp only[HG];omega,?_⟩]
def z'hh:String:=z [ha_,ds.map some++List.replicate (i1! - f_) none,hb_,Bc X.K H es ws,hc_,Dm v' u',hd_,.Name y py,he_,ys.map he!,hf_,s.heap.IsTuple l1 xs,hg_,EB ?_,hh_,⟨hp,g,d,tk,os⟩,hi_,s.cps.toList.zipIdx.map kn_,hj_,.tup cj_,hk_,λK hK=>?_,hl_,.str bb!,hm_,k=="undo",hn_,(show u=.none from L),ho_,Gc _,hp_,aK .str aY_ [],hq_,.lst cM_,hr_,some o.nm,hs_,fJ s.heap a es ep,ht_,(by rw[mup_same];simp),hu_,Dg dg_ hu! fx_,hv_,xF P w K own G H Z ρ M,hw_,MA X own es fs,hx_,(o::os),hy_,(x::os),hz_,hp.map _,hA_,CO _,hB_,k3 a b c,hC_,Mh->List D->Option D,hD_,.tup ag!,hE_,some (.int (a:Nat)),hF_,Aa 0 ρ=some cn!,hG_,W.its.length,hH_,Lq own Z H1,hI_,some (.lst es!),hJ_,[hJ!,some hI!],hK_,mup_ne a1,hL_,m - 1,hM_,some (.int N),hN_,ca h,hO_,[u_,X_],hP_,l.map f,hQ_,.done (.ret .none),hR_,((hR!).map A_).map eu_,hS_,(by simpa using B),hT_,List (List Key×V),hU_,o.ExactDict,hV_,[u_,H!,H_,X_,hr_,X_],hW_,∀b u,h.get? b=some u->h'.get? b=some u,hX_,[u_,H_,aq!,hr_,some eo!],hY_,seqObj "list" (ev_).toArray 0,hZ_,wD h H,h0_,.ListComp dm vG_ scope ab,h1_,[K!,ew_],h2_,b∈X.ex\/dF_<=b,h3_,λb o e n O L=>?_,h4_,alB t,h5_,λ_ _ _ _ n=>n,h6_,λ_ _ _ e=>e,h7_,BG _ z,h8_,t.T d x,h9_,TP X J Z Q]
def z'i:String:=z [ia!,lk_<10 ^ 60,ib!,.int (i:Nat),ic!,"numbers",id!,∀dq,isTrue e X.env dq=(do let v <-dq;standAt e.pos;holding [v] lX!),ie!,"_law_most",if!,"_law_at",ig!,its.toList,ih!,.inl h,ii!,z▸db,ij!,some e,ik!,init++(bk_).reverse.map λc=>g5!,il!,fC ma!,im!,.Name x ie,in!,eW (Ux t) 0 c4!,io!,Bv t_,ip!,some x3,iq!,f2 Bg s_ cf!,ir!,(by simpa using hu),is!,λb O=>(is_).1,it!,⟨rfl,I.turned (t':=s.toks) (λb o O e=>eb b o O e) f0 f1 f3 f4 f5⟩,iu!,I1.kept (t':=s1.toks) λb o e=>AG _ e,iv!,wl il!,iw!,Gl X "range",ix!,(false,eval b X.env),iy!,Ac M! b1_,iz!,I7.unpinned,iA!,Ad bh! An,iB!,(pE!).flatMap (T.T 1),iC!,tOp r ta tb,iD!,wl (fC E!),iE!,Pd os,iF!,fC b2_,iG!,f1 Gm a1!,iH!,Ad G_ An,iI!,Ao eK_ (Bs (Me (Gc (Fk sx_)) (wT (w2 iH_ (dD u! ak!) (wl iF!)))) (Dz M! ak! iD!) Eu),iJ!,lastMarks [op,ez] [b,c]=false,iK!,.str "move",iL!,.str "set",iM!,r'.length,iN!,K.In s.heap,iO!,W.emptyDict,iP!,Us f v fs,iQ!,(show False from r),iR!,H a=some eR!,iS!,True.intro,iT!,Ss 3 An,iU!,Ab 10,iV!,.List es pos,iW!,.Call tx_ aK_ [] pos,iX!,Af On,iY!,[.non,.non],iZ!,Ak aw_ Bd,i0!,Ad bx! An,i1!,N.length,i2!,Ak bz! Bd,i3!,W.codeIn K ae qual=true,i4!,Ad C_ (Ad C_ (Ad C_ An)),i5!,⟨_,ho,rfl⟩,i6!,"_law_row",i7!,Xf y_,i8!,.ref sl,i9!,Af iQ_]
def z'ii:String:=z [ia_,(Str.ofString "]"),ib_,[some ib!,some eh!],ic_,PE X e t,id_,"_law_found",ie_,"_law_base",if_,.bl true,ig_,Zl a x0 o fd p l2_ (some c),ih_,PS X st t,ii_,Fk (fT (Gp "tuple" n!)),ij_,St->Hp->Prop,ik_,fC gb!,il_,f1 Mt a1!,im_,⟨.int _,H,a0_,J_,q⟩,in_,T.T bd! c,io_,pyNext b0_,ip_,some x4,ir_,{s with heap:=h'},is_,hf b O,it_,Bu t.B5 "preceding" i!,iu_,wl ik_,iv_,Oi t.B5 1 (Nr t) Al,iw_,X.mg "range"=none,ix_,Ac aL_ Al,iy_,f2 b O,iz_,lw W T 0 root,iA_,.lst mo_,iB_,Int->Int->V,iC_,2 ^ 64,iD_,Pz true,iE_,f2 Ar me! C_,iF_,Az 1 Jg,iG_,Qu k3!,iH_,λ_=>Cg,iI_,Md X (compareOp ez) r',iJ_,.Compare a [op,ez] [b,c] pos,iK_,(by simp only[AN];omega),iL_,if i<0 then -i else i,iM_,cR rfl,iN_,Hg.cons (j:=1) Hg.nil,iO_,W.instObj C p!,iP_,Mb E_,iQ_,Av Ap At a6! Ae r_,iR_,I.tok _,iS_,Ba 1 (Iq t) a3_,iT_,Cn aj_,iU_,A.under (.builtin "type.__call__" ⟨.ref C::us,kw⟩),iV_,.int 9,iW_,.Call tx_ [] [] pos,iX_,Av Ap At aE_ Ae r_,iY_,Str->Option NameKind,iZ_,((p,w)::P.zip vs),i0_,AX.mp nd,i1_,Ak aw! Bd,i2_,Aa 10,i3_,bootBuiltins x=some eX_,i4_,.ref t,i5_,⟨_,je,rfl⟩,i6_,(by simpa using hv),i7_,((sIx n 0 lo:Nat):Int),i8_,f2 Gr G_ t_,i9_,wl (fC eY_)]
def z'j:String:=z [ja!,Builtin.Tuple.tupleExact _,jb!,V->Option Int->Option Int->Hp->VK->Prop,jc!,Af al!,jd!,(i_:Int),je!,IxR X r,jf!,M_<=sizeLine,jg!,(show false=true from fx),jh!,.ref l,ji!,.dT kvs,jj!,Ch T.U0 T.U2 l!,jk!,[(.non,.non)],jl!,u++[a0],jm!,z▸ha,jn!,AA fin,jo!,.inr (.inr e9_),jp!,l.most=some n,jq!,Mg kp n,jr!,z▸this,js!,⟨[u],[]⟩,jt!,λ_ _ _=>False,ju!,mup_ne jq,jv!,mup_ne t9,jw!,(D.non::u),jx!,ForInStep.yield r,jy!,z▸AM (f:=b!) hq,jz!,λa b hm=>?_,jA!,λx L y hy=>?_,jB!,.inl z,jC!,(by kernel_rfl),jD!,(N_,a0f us n),jE!,ff _ (rh p hp),jF!,∀a vs,Lj K H a vs->Lj K H' a vs,jG!,hA.lt x L,jH!,upd H p dj_,jI!,⟨_,mup_same⟩,jJ!,λb u e=>?_,jK!,[fe_,fe!,eH!],jL!,.tup [fe_,fe!],jM!,Zk hN hv hd bv,jN!,(by rw[hl];exact AS _ q0),jO!,(∀v G' H',Ed G H G' H'->Bl K G' d v->Q v H'),jP!,"depth",jQ!,.int (k0:Nat),jR!,⟨G1,ρ,d,dk_,e,wh!⟩,jS!,DA X own es fs,jT!,f1 g fs,jU!,s3 c hc,jV!,Df sub qa,jW!,Ag->Option og!,jX!,z▸L,jY!,bs.map Value.bool,jZ!,Ed.refl s2,j0!,bnd d ρ,j1!,wo W.rows i,j2!,cs.map λ_=>.bl true,j3!,starEach (e::[]) X.env=eT_::starEach [] X.env,j4!,Ek x_,j5!,.str "put",j6!,.str "set",j7!,∀o∈ops,a5x o,j8!,j7_<=100,j9!,(by simpa using h)]
def z'jj:String:=z [ja_,AC ⟨_,rfl,AC h⟩,jb_,Gc (fT pj!),jc_,w2 Ec i! nd_,jd_,V->List V->Hp->VK->Prop,je_,Az 5 (w2 Ec bj! b4!),jf_,Ch T.T9 T.U5 l!,jg_,compareOp .In,jh_,upd H l aU!,ji_,Vx (Xi T) e! rfl,jj_,iI kf kp xs,jk_,Pb.m Du,jl_,(b0::v),jm_,z▸w,jn_,backTo ab vc_,jo_,.inr e9_,jp_,Mg kf n,jq_,ns.map .int,jr_,List.Pairwise.nil,js_,λv _=>v=.bl true,jt_,Am (Dd Q_),ju_,mup_ne oj,jv_,mup_ne t6,jw_,Kq st,jx_,AD _ hp,jy_,λx=>?_,jz_,names.map λ(n,k)=>if nD_ then(n,NameKind.cell)else(n,k),jA_,flt b O,jB_,[(Str.ofString "following",D.fn f),(Str.ofString "preceding",D.fn p)],jC_,⟨B6,B7,B8,B9,C0,C1,C2,C3,C4,C5,C6,C7⟩,jD_,(λv z=>by cases z),jE_,(by show 3<=1000;decide),jF_,W.num i,jG_,.str i,jH_,λ_ h=>.inl h,jI_,if x=i then cutT [s] bl_ else W.txt x,jJ_,Ed G H G' H',jK_,[fe_,fe!,.int z],jL_,∀j∈ix,j∉own,jM_,(by rw[hl];exact BG _ q0),jN_,mup_ne z,jO_,f2 g fa fb,jP_,[aX_,aN_,.int (k0:Nat)],jQ_,⟨x,rfl,?_⟩,jR_,ah_<=16,jS_,lP h.ok,jT_,Js X.K fd ps [],jU_,mup_ne h5,jV_,Int->Int->D,jW_,sub.seq q,jX_,List Bool,jY_,wl f1,jZ_,starEach (a::[]) X.env=dO_::starEach [] X.env,j0_,λv H2 hy=>?_,j1_,λj hj=>?_,j2_,xs.map D.str,j3_,eval bo_ X.env,j4_,[.Subscript bo_ ix p2],j5_,.str "write",j6_,spF K ps.length g,j7_,ops.length,j8_,Lj X.K H a vs,j9_,Ir oy_ oz!]
def z'k:String:=z [ka!,[.str "bin",.tup [.int 9,.int 9]],kb!,∀(us us':h_),Ce vs us->Ce ws us'->∀(j:Nat) u u',us[j]?=some u->us'[j]?=some u'->SeqAt.EqAt A.in1 s u u' j9_,kc!,λj=>Ir oy_ oz!,kd!,Wv ds es hl,ke!,(ah_:Int),kf!,cs.map eA,kg!,.ref ad,kh!,some iz,ki!,Str.ofString "__next__",kj!,ZipApart z TI TO i1 i2 l1 l2,kk!,IsPair s.heap TI oM_ oM!,kl!,s.heap.IsTupleIter i1 l1 k1,km!,(∀c ob,c≠z->c≠TO->c≠i1->c≠i2->s.heap.get? c=some ob->h'.get? c=some ob),kn!,AA (JX ?_),ko!,.tup [j6!,a,.int p,.int v],kp!,λx L q hq=>?_,kq!,k==k',kr!,Ul xs ys,ks!,[.str k,a],kt!,[z!,ay!],ku!,.lst ((dt!).map kt_),kv!,DD.mpr r_,kw!,[hm!,.int o.n,kv_,o.d],kx!,(∀o∈os,DG o.d),ky!,plc es dv!,kz!,(·.key),kA!,cZ P w s.heap es.toArray ks,kB!,AV.mp hq,kC!,(by simpa using hl),kD!,[(root,.fn r1),(Di,.fn r2)],kE!,Cr G G',kF!,XM M G H M' G' H',kG!,w2 gm fa fb,kH!,st.grow x1 m1,kI!,hp x AL,kJ!,Fy X.K G x v,kK!,some fB_,kL!,wQ (A:=A.in1) hu I m sub e r hk λo s' I' ho=>?_,kM!,upd H a (dE a au bc!),kN!,[K!,fC!,X_,z],kO!,!Ir d d',kP!,(show its.toArray.any fC_=its.any fC_ by simp),kQ!,(Str.ofString "undo"==k||Str.ofString "redo"==k),kR!,Jf.of B,kS!,.fn wt,kT!,.ext x2,kU!,some aZ!,kV!,q.2.length,kW!,Cs rs[k],kX!,((k+1:Nat):Int),kY!,.int kX!,kZ!,.lst ((zJ_).map Cs),k0!,AQ (by simp[big];omega),k1!,Lq own Z H,k2!,wl fx,k3!,Iz n!,k4!,.lst k3_,k5!,some ef!,k6!,⟨#[s.cps.toList.getD k 0]⟩,k7!,g ρ=some b,k8!,.obj C [],k9!,Fj N ps.length q]
def z'kk:String:=z [ka_,us.toArray.size,kb_,ao.length,kc_,bY rd re rv ao (h us us' rv ao),kd_,Wr ds es hl,ke_,⟨.bl _,H,I,rfl,q⟩,kf_,λ_=>some true,kg_,.int base,kh_,Its x,ki_,(by size_fits),kj_,IsZip s.heap z TI TO .none,kk_,IsPair s.heap TO p q,kl_,s.heap.IsTupleIter i2 l2 k2,km_,b1j (cJ rfl (DY _)),kn_,sgn h m,ko_,(oQ_).set p.toNat eh!,kp_,λc hc=>?_,kq_,f3 ρ=some c,kr_,hA.noOb oM6,ks_,Zy l c k,kt_,(·.2.1),ku_,rows.map b!,kv_,.int o.tm,kw_,ks.length,kx_,cZ P w h es ks,ky_,[bS_,H_,none],kz_,(∀b,M b≠none->M' b=M b),kA_,mup_ne c2,kB_,[(root,.non),(Di,.non)],kC_,mup_ne (AK jx),kD_,.fn a3,kE_,dE a es ep,kF_,(by rw[e];simp),kG_,os.map Op.nm,kH_,⟨G1,ρ,M1,R,kH!,r1,y2_⟩,kI_,(by rw[hp.length_eq];omega),kJ_,upd H a (dE a au (Lk kvs d ep)),kK_,dictGet a u>>=_,kL_,[K!,pv_,X_,some pw_],kM_,wl B!,kN_,(u++o::v),kO_,λw hw=>bK I r1 rx n1 r2 r n2 (by have:=Xo X.A;omega) w m4!,kP_,cU I r2 r n2,kQ_,its.map λi=>(i,g i),kR_,W.rows.map Cs,kS_,(bl_).map Ci,kT_,[w!,ay!],kU_,(p,kvs,ep),kV_,.int (aq_:Nat),kW_,ho.run I st e λd M1 v G1 H1 u s1 r1 x1 m1 q1 I1 rx=>?_,kX_,⟨t1,t2,?_⟩,kY_,AI (AK h.1),kZ_,(by simpa using uy),k0_,(by rw[AT,CG];omega),k1_,s.root O,k2_,Aa 2 ρ,k3_,l.map Ci,k4_,[.Subscript o i p2],k5_,p1 rfl,k6_,f ρ=some a,k7_,Gi C m M d,k8_,.lst (nw.map Ci),k9_,.lst []]
def z'l:String:=z [la!,AC (AA (JS ho hd ?_)),lb!,.int (q.2:Nat),lc!,Ul qa! qa_,ld!,hs os h,le!,(0,a0.size,0),lf!,AD _ hz,lg!,.lst ap_,lh!,[X!,ao_,hM_,eo_,qg_,qg_,none,none,none,none],li!,α->β,lj!,⟨rfl,hg _ hK⟩,lk!,PuT ft ρ M false,ll!,[fO_,A6!],lm!,hs S h,ln!,Cu (d:=aX_) rfl,lo!,hs S o.h,lp!,PySem.Fin->Shared->Prop,lq!,AV.mp O,lr!,(by rw[hA.ob];simp),ls!,hk q a9,lt!,[u_,X_,none],lu!,(s.heap.push cr!).update s.heap.objs.size (Obj.mapSeq (·++cE_)),lv!,(Sum.inl a:Key),lw!,(Sum.inr a:Key),lx!,⟨_,rfl,r⟩,ly!,dn.map λo=>hT!,lz!,List Key×Addr×Value,lA!,W.instObj C dx,lB!,λ_ q=>q,lC!,∃u,h'.get? e=some u,lD!,jG F S λae A outer s H E hr=>O hr,lE!,h.ch y.h,lF!,trk h H,lG!,[.lst jq_],lH!,[u_,ew_],lI!,cX X.prog X.w H' h',lJ!,kl.flatMap (hs S),lK!,I.base.keep b o e n O L,lL!,(Pd S).map Op.v,lM!,.obj t.B3 (hF ta wa ax_),lN!,hs.2 b (BV qX_),lO!,Inv X J Z H' s',lP!,[aj!,as_,f3!],lQ!,Str.ofString "=",lR!,[aj!,vK_,aK!,"behind","text"],lS!,[aj!,aK!,"first","many"],lT!,.bool b,lU!,[at!,"fresh"],lV!,[at!,as_],lW!,h J s Z H _ I hw,lX!,truthy v,lY!,.BoolOp .Or [a] pos,lZ!,"_law_rows_here",l0!,[bI_,ie_,cu_,ie!],l1!,Gn bY! λv s1 ⟨x,H1,I1,r1,q1⟩=>?_,l2!,.IfExp c a b pos,l3!,Zl a x0 o fd p l2_ y6,l4!,"_law_name",l5!,[bZ!,bf!],l6!,[bZ!,bv!,"_law_deep",id_,"_law_child",l5_,"_law_numbers",be_],l7!,⟨hx,H',I.unwish,q⟩,l8!,(st::rest),l9!,Hp->Prop]
def z'll:String:=z [la_,q.2.1.map b!,lb_,.Constant (.str s0) n0 p0,lc_,mirror_perm _ _ _ _,ld_,HW i os c0 c1 c2 t0 t1 t2,le_,setPending h1 ((AS_).push le!),lf_,Value.int a t,lg_,some lg!,lh_,λz hz=>?_,li_,Pu f1 ρ M a,lj_,List (Keyed×D),lk_,v.natAbs,ll_,[fO_,A6!,(Str.ofString "waiting",.fn wa)],lm_,Od cq! hA.ob hF2,ln_,[aA_,o.v],lo_,(by rw[AN,CH];omega),lp_,(a,seqObj "list" #[] e1),lq_,ku.toArray.zip cE_,lr_,hk p hp,ls_,if h=o.h then q else ca h,lt_,.builtin "sorted",lu_,seqObj "list" us.toArray 0,lv_,.str x t,lw_,(nomatch e),lx_,κ×Value,ly_,[u_,H!,H_,X_,y4,y5],lz_,ds.all λd=>(Yc d).isSome,lA_,.lst dE_,lB_,e=x\/H e=some hX!,lC_,Mut (H x),lD_,upd H x o,lE_,Bn (hm b _ q λz=>z),lF_,Cb M q D_,lG_,X.env.scope.kind,lH_,(p3_:Nat),lI_,I.freeC x c e,lJ_,λx c e=>?_,lK_,I.base.free b o e n L,lL_,λb O=>?_,lM_,fs.map b!,lN_,hs.2 b (BV (BE cW! (I.ok.cab x c xf hc))),lO_,starEach es X.env,lP_,Str.ofString " [",lQ_,sI (i:Nat),lR_,eval a X.env,lS_,⟨v,H,I,r,h⟩,lT_,"message",lU_,(nW!).map D.str,lV_,[at!,aK!],lW_,[bY_,jP!,aK!],lX_,.BoolOp .And [a] pos,lY_,"_law_letters",lZ_,"_law_other",l0_,.BoolOp op [a] pos,l1_,[bI_,ie_,"_law_many"],l2_,some (Xy bD_),l3_,[bZ!,bv!,lZ_],l4_,"_law_gone",l5_,"_law_line",l6_,.int 60,l7_,Zl a x0 o fd p y5 y6,l8_,.Return ij! pos,l9_,assignEach es X.env]
def z'm:String:=z [ma!,.str "bin",mb!,setItem ov iv v,mc!,Gp "str" n!,md!,Int->Int->Int,me!,f2 Ar n! av!,mf!,(by simp only[DV];unfold big;omega),mg!,(λys hy=>by rw[I.list_inj hy hq];exact L),mh!,λb o O e=>kk b o ge! e,mi!,hi - lo,mj!,.fn (qa c),mk!,Gn mk_ λus s1 ⟨vs,H1,I1,r1,q1⟩=>?_,ml!,w2 Ec ml_ u!,mm!,.lst sa!,mn!,Ac u! mm_,mo!,PI X tg iter wi,mp!,Az 8 (wl (f2 Bb s_ (Bz iA!))),mq!,Int->Int->Prop,mr!,.BinOp a op b pos,ms!,Int->Int->Bool,mt!,binaryOp .Mult,mu!,rI c9z λi j=>.int (i / j),mv!,iF (aK .str iE! []) iE!,mw!,rI c9y λi j=>.int mv_,mx!,decide (i<j),my!,compareOp .LtE,mz!,decide (i<=j),mA!,decide (j<=i),mB!,ho J s2 Z H2 x y v u _ I2 r1 r2 q2,mC!,.str "drop",mD!,kvs.isEmpty,mE!,⟨H,I,q⟩,mF!,f2 Ar G_ av!,mG!,⟨.str _,H,a0_,J_,q⟩,mH!,wl (Hq An),mI!,Cn (wl (f1 Gm c4!)),mJ!,Ac (Ba 1 (Jo t) a3_) Al,mK!,W.isFn K af_=true,mL!,f2 Ar s_ C_,mM!,{s with toks:=s.toks+1},mN!,λ_ _ _ _ _=>Cc (i:=0) (show([bf!,bv!]:List Str).Nodup by decide+kernel) rfl a_,mO!,show Us f v ((k,x)::r)=(if k=f then(k,v)::r else(k,x)::Us f v r)from rfl,mP!,Av Ap At a4! Ae r_,mQ!,Ah aE_ Au,mR!,Qu (Iz s_),mS!,PE X o ta,mT!,Dx 2 [] (xK (Cf t.B4 "numbers_of" 2 (Gd t) i! c5!)) eG! (Gc (fT to_)) (wl (a1m " [" "=" "]" n! s_)),mU!,λ_ _ _ _ _=>l!,mV!,.ins C dx [],mW!,Te I hg hm ?_ be,mX!,backTo pos tB!,mY!,Am (Dd iX!),mZ!,Ak Q_ cz_,m0!,zZ (Zr b7! (Sx (Jc b6_ Kb bz! a5! rfl))),m1!,Dp (sc:=Ai kG) rfl o!,m2!,bootBuiltins x=some eX!,m3!,.int c u,m4!,(by simpa using hw),m5!,Az 3 (wl i8_),m6!,(items.toList.drop (sIx items.size 0 lo)).take t6!,m7!,Option Expr,m8!,.Slice lo hi none p2,m9!,HT.sIx xs.length xs.length hi - HT.sIx xs.length 0 lo]
def z'mm:String:=z [ma_,PE X o to,mb_,∀x,chl r1 x=chl r2 x,mc_,PG X tg g,md_,f1 Dh c4!,me_,T.eq bd! c,mf_,λb o O e=>(sb.2 b O).trans e,mg_,T.T d x,mh_,oE W 1500,mi_,s.heap.push {cls:=.type "range",data:=.fields #[.int lo t,.int hi u,.int 1 v]},mj_,W.num c,mk_,ha pos J s Z H _ I h,ml_,Bu t.B4 "parents" i!,mm_,Ac aj_ Al,mn_,Cf t.B4 "has_item" 2 (Fv t) i! b1_,mo_,(iz_).map D.str,mp_,V->Hp->VK->Prop,mq_,Md X (binaryOp op) r,mr_,f dC! (.int j u),ms_,.lst dH_,mt_,rI b8x λi j=>.int (i*j),mu_,rI (λ_ j=>0<j) λi j=>.int (i%j),mv_,i ^ j.toNat,mw_,.str "redo",mx_,tW λi j=>.bl mx!,my_,T.cast ev.ch,mz_,tW λi j=>.bl pG_,mA_,tW λi j=>.bl mA!,mB_,Nv (iG (nM sB! (aA (Cw qY rA gk_ Ae v!)))) eM_ Hr,mC_,Ah a4! Au,mD_,its.toArray.isEmpty,mE_,Nx T.R9 rfl,mF_,.str gn!,mG_,Hj t.B3 "outline" i! b1!,mH_,w2 Ec dR! M!,mI_,a5y s.heap x dx C mA,mJ_,W.plainGet_of hg,mK_,f2 Ar s_ t_,mL_,Af (fA Au),mM_,Ac i! mm_,mN_,λ_ _ _ _ _=>gq!,mO_,Jq 1 [] (Iz s_) S! aL! s5_,mP_,Option Value,mQ_,Str.empty,mR_,Az 4 (Nf (Ac (wl (Bz (Ad C_ c4!))) Al)),mS_,Ah bL! Au,mT_,oG P w K mg base A outer s H,mU_,f2 Cg iE_ (fC eL_),mV_,upd tu_ x mV!,mW_,f2 Bb t_ (f2 En n! s_),mX_,Mk X.K C f,mY_,Ad (f1 Fe (Ad n! (Ad tt_ An))) An,mZ_,fC (.int 5),m0_,fD CX P w K mg base N qual scope f ae A outer s H E,m1_,Oq X eX! r,m2_,Oq X eX_ r,m3_,ws.length,m4_,v+(n:Int),m5_,(i:Int)+(m:Int)*1,m6_,Et (w2 Ec i! i9_),m7_,Ak x! iZ!,m8_,HT.sIx xs.length 0 lo,m9_,wl (fC au_)]
def z'n:String:=z [na!,.str "texts",nb!,f2 Ar s_ av!,nc!,Az 3 (wl (Bz um_)),nd!,.str "numbers",ne!,Dz jc_ aj_ (Nf uo!),nf!,De (Ba 4 Lz uo_),ng!,De (Ba 4 Qq (Ac i! gl!)),nh!,Qu (Kd uv!),ni!,Ad (f2 Bb uC_ n!) An,nj!,Dr (Hy T) e! l! cz_,nk!,wT (w2 neM nj_ aL_),nl!,Tt aj_ kM_,nm!,λx1 x2=>x1++x2,nn!,fT (Gp "list" G_),no!,n<=sizeLine,np!,.cons ru .nil,nq!,2 ^ 63 - 1,nr!,gb++bL_,ns!,h.p _ _,nt!,World->Heap->Prop,nu!,⟨bh_,[]⟩,nv!,λr s'=>r=.ok (.ret gG!)/\OldK aj.heap s'.heap/\s'.os=aj.os/\AllBare s'.gens,nw!,.bool true,nx!,Ax k callerA,ny!,Av Ap At by_ Ae r_,nz!,K.p _ _,nA!,Bn (ne b _ e),nB!,W.its.Nodup,nC!,λ_ _ _ q=>q,nD!,Ta.mp hq,nE!,n∉W.its,nF!,Inv X J Z H2 s2,nG!,if x=n then[]else W.txt x,nH!,(cE!).mp L,nI!,setT W a l,nJ!,Str.ofString "written",nK!,(by rw[e1];exact O),nL!,mup_ne p1,nM!,[z!,ay!,I_],nN!,(by show 1<=1000;decide),nO!,hA.noOb oM2,nP!,ds.drop n,nQ!,(q.1,q.2.1,q.2.2&&!decide (q.1∈cp)),nR!,λq hq y hy q' a9 e=>?_,nS!,Bi k6 s E!,nT!,setT W i vY!,nU!,some cd!,nV!,g++[.tup jK!],nW!,pA (nmL W x),nX!,.dct (Bi k5 s c) e5,nY!,(by rw[wc];simp),nZ!,cs.zipIdx k0,n0!,[z!,bn_,I_,ea!,some tx,some cy,some jQ!,some gB_,some cg_],n1!,⟨G,ρ,x,er,e1,λG1 H1 s1=>?_⟩,n2!,(.tup jP_,.str am!,true),n3!,⟨G,ρ,.bl x,er,Tn e1,wg_⟩,n4!,hO.mono a!,n5!,Bi k2 n (.fn r1),n6!,.dct n5_ e3,n7!,(by rw[AN,AN];omega),n8!,s2 c hc,n9!,K3 c (n8_).1 (n8_).2.1 (n8_).2.2]
def z'nn:String:=z [na_,λb ob q=>AG _ q,nb_,Az 2 (wl nb!),nc_,Dz bj! aj_ mH!,nd_,wl (fC nd!),ne_,Ah Ae Au,nf_,.Subscript a b pos,ng_,De (Ba 4 Qq (Ac i! sD!)),nh_,Ch T.T9 T.U3 l!,ni_,sliceBounds lo hi none n,nj_,w2 Ec (wl bh!) (wl bx!),nk_,ag.endLine==ab.line,nl_,Ad C_ (Ad (f2 En (f1 Fe uX!) (fC (.int 13))) An),nm_,acc++its,nn_,fT (f1 Yd u2_),no_,(by rw[AN];omega),np_,Hg.cons (j:=0) Hg.nil,nq_,ks.map kV,nr_,h.f _ _,ns_,(Str->Option Value)->Heap->Prop,nt_,d.params.defaults=[],nu_,.call e6_ nu!,nv_,λf vs=>PySem.call f vs,nw_,⟨t,rfl⟩,nx_,Af (Hs aE_ Iv c7_),ny_,∀x∈xs,∃k,Ha x=some k,nz_,W.fnOf x qual jw_ bN! bA! .none kV bo pm an ae ct,nA_,λm hm=>hm,nB_,Bn (by simpa using hc),nC_,(aF_).map b!,nD_,k==gI_&&env.scope.kind==.function&&env.kindOf n==some .cell,nE_,c3s X scope cl,nF_,∀b∈fp,Qk X J H2 b,nG_,(nH!).resolve_right q,nH_,gU NL.length ix Z,nI_,if x=a then l else W.txt x,nJ_,k1.length,nK_,.inr (.inr ⟨ag!,rfl⟩),nL_,mup_ne h3,nM_,List (L2.Key×V),nN_,Ha x=some kx,nO_,(jF_).set p.toNat go_,nP_,⟨r,f,p',g1,g2.keep (ar _ di_) (ar _ d5!) (ar _ d5_),g3,g4,g5⟩,nQ_,setT W i (cutT g bl_),nR_,V.ref p,nS_,.dct nS! e6,nT_,a5h i v,nU_,λi d q _=>?_,nV_,c3i nl ix ρ,nW_,hw Z G H Q ρ d er e k,nX_,setT W i v2_,nY_,if b∈Rt own Z then none else G' b,nZ_,k G' H' s',n0_,[z!,bn_,I_,ea!,some tx,some cy,some jQ!,some gB_,qg],n1_,ds.map aI,n2_,fT fa ρ,n3_,Qv aI ds,n4_,Bi k1 n pl,n5_,Bi k3 n (.fn r2),n6_,[c0_,ie!],n7_,mup_ne c3,n8_,iy c hc,n9_,we c hc]
def z'o:String:=z [oa!,gh c hc,ob!,gh c jU!,oc!,Df sub qb,od!,w1 _ v2,oe!,λ_ j=>decide (0<j),of!,(by rw[z,g4]),og!,Option Int,oh!,w1 a2 h3,oi!,⟨o,B,Y⟩,oj!,na d hd,ok!,sub.seq q,ol!,AI (λz:x=n=>hn jX!),om!,.dct n4_ (Lk k1 n e1),on!,List.range n,oo!,.dct n5_ (Lk k3 n e3),op!,Bs _ _ _,oq!,GD X.K g bnd,or!,x.sub.free hp,os!,B.ok G0 F0,ot!,.inl ⟨rfl,vs,Jf.of h3⟩,ou!,Ig ds.length j,ov!,(a==k||b==k),ow!,⟨m8 ij,?_⟩,ox!,A.deeper (envOfC qual bA! s.heap.objs.size σ ae),oy!,.lst its,oz!,es.getD j .non,oA!,us'.toArray,oB!,cz.length,oC!,letters.length,oD!,⟨cs.toArray⟩,oE!,ad==sysModules,oF!,Sum.inr z,oG!,Addr->Option xk!,oH!,A'.handled,oI!,some (lS oth),oJ!,[a].length+(dX_).length+e2!<30,oK!,[X!,ao_,az_,bp!,bR!,cj!,cK_,kh!,fo!,some T_,some sg,none],oL!,[.tup [bo!,.int (1+m0%5)]],oM!,.ref i2,oN!,BD _ rfl,oO!,zp4 s.heap l1 l2,oP!,AG _ oN!,oQ!,λc o _ _ hc e _=>kp c o hc e,oR!,λc o _ _ hc e _=>⟨o.slots,kp c o hc e⟩,oS!,λc o hc e=>⟨o,kp c o hc e⟩,oT!,I.hok c o e,oU!,λ_ e'=>e',oV!,⟨a',b',c',e',BG _ hm⟩,oW!,.str k',oX!,.tup (.str k::a::r),oY!,.tup (.str k::a::b::c::r),oZ!,⟨_,_,rfl,rfl,ed!⟩,o0!,fD iL P w K mg base N x bA! σ ae A outer s H E,o1!,(Zy l c k).binds b,o2!,ns.map D.int,o3!,yN rows,o4!,DO.mp hq,o5!,Str.ofString "undo"==Str.ofString "undo",o6!,ops.map Op.key,o7!,Sy P w s.heap x u,o8!,(Ar o.v aC_).bind λx=>Ar x G!,o9!,.dct acc ep]
def z'oo:String:=z [oa_,.lst fT_,ob_,mup_ne h4,oc_,w1 _ v1,od_,w1 _ v3,oe_,(by rw[z,hA.r1]),of_,(by rw[z,g5]),og_,lC rr l h,oh_,.builtin "isinstance",oi_,(by rw[Hb xn];exact u1),oj_,Jf K H p ys\/Lj K H p ys,ok_,bs.all id,ol_,⟨ho,rfl,k⟩,om_,Cb M a1 om!,on_,Eb.mp z,oo_,ao.mono x2.g,op_,[z!,I_,ay!,cI_],oq_,er.grow x1,or_,.dct (Bi k1 i x) (Lk k1 i e1),os_,ρ.set i nU!,ot_,h5.mono x.g,ou_,.tup [.str a,.str b],ov_,.str "move",ow_,.str "undo",ox_,fD iL P w K mg base N qual bA! σ ae A outer s H E,oy_,ds.getD j .non,oz_,us'.toArray.size,oA_,some (.lst cz),oB_,Jf X.K H a vs,oC_,λacc p=>acc++(bb!).cps++p.cps,oD_,.str letters,oE_,bn.lookup y,oF_,Sum.inr z,oG_,[X!,ao_,az_,bp!,bR!,cj!,cK_,kh!,fo!,some T_,none,none],oH_,⟨u,rfl⟩,oI_,backTo ab (starEach [a] X.env),oJ_,.ref jt,oK_,Gq rfl rfl,oL_,⟨_,dN_,rfl⟩,oM_,.ref i1,oN_,⟨_,rfl,?_⟩,oO_,.type "zip",oP_,(λv y=>by cases y),oQ_,W.num a,oR_,[aX_,aN_,.int (k:Nat)],oS_,λc ps e=>q8!,oT_,λd o' hd e'=>kp d o' (λhm=>?_) e',oU_,Bn (ne c _ e),oV_,Bn (ne d _ q),oW_,Gf (D.str k::r) 0=_,oX_,.tup (.str k::a::b::r),oY_,some (.inl (.inr "bin")),oZ_,A.deeper (envOfC x bA! s.heap.objs.size σ ae),o0_,a4u n es,o1_,W.mg_of X G a,o2_,(dt!).map b!,o3_,a6t rows,o4_,(k=="undo"||k=="redo"),o5_,Str.ofString "redo"==Str.ofString "redo",o6_,List L2.Key,o7_,.bl (Mf o.d).isSome,o8_,λk=>.bl hm_,o9_,[H!,H_,y]]
def z'p:String:=z [pa!,EN ho hd (AA (b5w hu q2 hk (AA (EN ho hd ?_)))),pb!,λx=>?_,pc!,[bS_,none,none,none,none],pd!,AA (iX hu hk λtk=>AA yL_),pe!,(∀b,M b≠none->M' b=M b/\rl b=.oth),pf!,Cb (Cb M o pe_) a1 D_,pg!,.dct kB_ (pf_).length,ph!,.obj t.B4 fx_,pi!,.dct kD! (ph_).length,pj!,f2 Hw s_ w_,pk!,if c=o then _ else _,pl!,List D->Mh->Prop,pm!,st.mr.ext x,pn!,λ_=>g,po!,(∃ur,pX W' ur),pp!,[H!,z!,aq!,some x.v,z],pq!,λy hy=>hd y d0_,pr!,Ed.laid x1.sub hp,ps!,λy hy=>hp y d0_,pt!,⟨⟨o,q o z1,z2,z3⟩,z4⟩,pu!,.int ze_,pv!,(bj_).map Op.v,pw!,(bW!:Nat),px!,((bW!+m:Nat):Int),py!,AA (GU hT ac_),pz!,[bS_,none,none,none],pA!,⟨B,Y⟩,pB!,α->Prop,pC!,.dct q.2.1 q.2.2,pD!,rs.take k,pE!,chl W.rows root,pF!,T.eq 0 root,pG!,.dct (k3 (.lst (rows'.map Cs)) kS! ep!) e,pH!,(by rw[hA.rt];simp),pI!,aw wn zE_,pJ!,[some ep_,I_],pK!,((aq_:Nat):Int),pL!,.lst [Cs bA_],pM!,W.rows.filter λq=>decide fF_,pN!,.lst [p],pO!,.inr (s.noF z),pP!,sr.grow x m,pQ!,Aa 2 ρ=some eh_,pR!,(by rw[hA.rw_];simp),pS!,.fn (qa a),pT!,.bl q.2.2,pU!,[w!,K!,k5!,fG_,o4,o5,o6,o7,o8,o9],pV!,MI X own tg iter fi,pW!,spM P w K ps.length g,pX!,some (.int (at_:Nat)),pY!,.lst ((es!).take at_),pZ!,(λi v=>∃e,es[i]?=some e/\v=e.key),p0!,oI W n d W',p1!,⟨rfl,k⟩,p2!,(mX!).any b!=false,p3!,.bool (lexLt ms ns),p4!,fa ρ=some y,p5!,HT.lexLt ms ns,p6!,Cb N w D_,p7!,⟨0,?_⟩,p8!,AV.mp z,p9!,[none,none]]
def z'pp:String:=z [pa_,Option Nat,pb_,kget wd o.nm,pc_,aK .str aY_ [],pd_,fa ρ=some x,pe_,.obj t.B4 [],pf_,[(root,D.non),(Di,D.non)],pg_,af!<=sizeLine,ph_,[(root,D.fn r1),(Di,D.fn r2)],pi_,Dg d2! kD_ hu_,pj_,Bi kvs d x,pk_,hH.trans B,pl_,hw Z G H Q ρ M R st e k,pm_,.refl st.or.sub,pn_,iF wd os,po_,hb+20*aQ!,pp_,some x.v,pq_,MT X own c ft,pr_,Cb M p c,ps_,⟨o,h⟩,pt_,((j:Nat):Int),pu_,[K!,ze!,X_,some pu!],pv_,some (.lst pv!),pw_,.int pw!,px_,((bW!+(m+1):Nat):Int),py_,.int (co!:Nat),pz_,compareOp .NotIn,pA_,D.str.inj z,pB_,Dx 1 [1] _ _ _ _,pC_,Qt M1 d,pD_,kget q.2.1 y,pE_,Bb fB_ aS_=_,pF_,(cl!).trans x3 m2,pG_,decide (j<i),pH_,(by rw[Y];simp),pI_,Value×Value,pJ_,[w!,I_,cc_,cI_,fE!,some jQ!,none],pK_,.lst ((eq_).take a),pL_,upd H s.heap.objs.size zD!,pM_,!decide (x=i),pN_,[w!,ay!,I_,some pN!],pO_,B.ok M0 G0 F0,pP_,.obj C (Dg x y fs),pQ_,.dct (Bi er_ a k4!) e,pR_,Ur M3 d y v,pS_,fb ρ=some y,pT_,((n:Nat):Int),pU_,Rj P w K own M0 G0 F0 M1 G1 H1 Z ρ,pV_,List.range ah_,pW_,[w!,K!,fH!,bn_,y4,none,none,none,none,none],pX_,[w!,K!,fH!,bn_,y4,hI_,pX!,y,some k8_,none],pY_,fJ s.heap d es ep,pZ_,rows.length,p0_,(by simpa using kg),p1_,starEach [a] X.env=dO_::starEach [] X.env,p2_,vY hL dv0 Yy bm,p3_,ms.length,p4_,Mf x.d=none,p5_,ax.mono a!,p6_,Cb p6! wt D_,p7_,.str "numbers",p8_,(aF_).length<5000,p9_,List (Addr×D)]
def z'q:String:=z [qa!,cs.map λc=>.fn c.1,qb!,Addr×D->Prop,qc!,∀k h1,SB kd a0 h1->1<=k->k<=n->Up r A! k->Q (some k) h1,qd!,λx h=>(by cases h),qe!,cR_ / 2,qf!,(by have:=hw.b1;omega),qg!,ρ[i]?=some nU!,qh!,b2e em ed nd z rfl rfl rfl rfl rfl rfl rfl O,qi!,ay.map A_,qj!,Str.ofString "outline",qk!,J++[et_],ql!,Ax k X.A.in1.in1,qm!,ku.length,qn!,Fa (f:=fC .non) (d:=.non) rfl,qo!,λh hh=>qn_,qp!,M p=some I!,qq!,Paired cS_ ds us,qr!,some (.inl (.inl o.h)),qs!,(by rw[hA.wt];simp),qt!,Px g q.2,qu!,λh hh=>?_,qv!,AV.mp y,qw!,[u_,H!,some hS!,X_],qx!,(by rw[<-e];exact hl),qy!,(λq=>nomatch q),qz!,(by rw[he];rfl),qA!,seqObj "list" its.toArray 0,qB!,(by rw[(Ev _).length_eq,CH];omega),qC!,ItemsOf pZ! acc af!,qD!,some (.inr [.inl o.h,.inl o.n]),qE!,(∀f,cW (fs.lookup f) (mA f)),qF!,λq e=>Fy K G q.1 e.key,qG!,(λb O=>by rw[lq!];exact gc),qH!,∀b xs,H b=some bc_->H' b=some bc_,qI!,seqEpoch_at md rfl ?_,qJ!,W.methodObj af_ (.ref y),qK!,(b3s λys Q H=>∀l,H l=none->Q jh! jh_),qL!,⟨ar b d4!,hr⟩,qM!,[u_,H_,aq!,hr_,y4],qO!,.tbl (ps++pe),qP!,⟨_,_,iR sub m rx,iR sub m ry,h.1.1,h.1.2,h.2,ed!⟩,qQ!,W.fnOf "__init__" qual jw_ bN! bA! .none kV bo pm an ae ct,qR!,∀M',Fg t M' a ta wa out [] [] ca->R .non M',qS!,ms.map Op.nm,qT!,X.env.kindOf x=some .cell\/X.env.kindOf x=some .free,qU!,λy=>y=D.bl true,qX!,[u_,ew_,some G!,none],qY!,(l.filter λx=>p x||q x),qZ!,s4.trans (Ed.laid s4.sub hp),q0!,ks.map D.int,q1!,((i+1:Nat):Int),q2!,⟨G,ρ,M,_,st,e,Ab!⟩,q3!,⟨v,_,M1,G1,rfl,r1,x1,m1,q1⟩,q4!,[u_,eo_,none],q5!,revObj l q4_,q6!,k _ _ M1 _ G1 H1 t1 x1 m1 ?_,q7!,Fg t M a ta wa .non S kl ca,q8!,⟨#[],by rw[e];simp⟩,q9!,Cu (d:=.non) rfl]
def z'qq:String:=z [qa_,cs.map A_,qb_,Option Nat->SortSt->Prop,qc_,mirror B_ 0 m ((m - 0) / 2),qd_,(by rw[AT,hw.len];rfl),qe_,(by have:=hw.b0;omega),qf_,(by have:=hw.b2;omega),qg_,some (.lst [bo!,bo!,bo!]),qh_,(by rw[BJ];rfl),qi_,(qi!).map kf,qj_,kl.length,qk_,.int ((lm!).length:Nat),ql_,some (.inl ih!),qm_,λd q=>Yc d=some q,qn_,(by cases hh),qo_,∀H':Hp,H' a=none->Qk X J H' a,qp_,seqObj "list" #[] e1,qq_,Qv eu_ ds,qr_,(by rw[DB];omega),qs_,(by rw[ht];simp),qt_,(by show 4<100;decide),qu_,(cq_).push cr!,qv_,checkCount "sorted" 1 1 _,qw_,(by rw[CH];omega),qx_,⟨_,la,rfl⟩,qy_,mixKind prog w,qz_,(s1.heap.push cr!).update s1.heap.objs.size (Obj.mapSeq (·++aQ_)),qA_,(qz_).push qA!,qB_,.tup (p.1.map kV),qC_,CL (by rw[CK,hi.1];omega),qD_,Paired.mapP ok.1 λ_ _ z=>z.1,qE_,Cb M p (.dct (ly!++[hT!]) bc!),qF_,(show h.get? a=some _ from x),qG_,λv d=>Ny h3 v (aI d).1 (aI d).2,qH_,L'.map (·.1.2),qI_,(by simpa using hl),qJ_,Qx fX! (Wh h3 p.1.1)<Qx fX! (Wh h3 q.1.1),qK_,(show Jz X.prog X.w H s.heap d dz! from I.hok d _ e2),qL_,qs.map Op.nm,qM_,∀b u,b≠e->h.get? b=some u->h'.get? b=some u,qN_,Cu (d:=.fn q) rfl,qO_,λx L=>hk x bQ_,qP_,∀{σ:Addr} {ae:Value} {A:Around} {outer:as!} {s:Shared} {H:Hp} {E:XK},Ax k ox!->MSs (ox_).nox [] h2 bN! q,qQ_,List.range cU!,qR_,h.get? b=some o,qS_,u8.mem_iff.mp ho,qT_,ys.map λ_=>true,qU_,I.ok.noex b o e,qW_,Array GenState,qX_,BE cW! I.ok.above,qY_,λb o e L=>?_,qZ_,λi x v e1 e2 e3=>?_,q0_,((n - 1 - i:Nat):Int),q1_,(λ_ z=>nomatch z),q2_,⟨_,au,bd,hL,r'⟩,q3_,Fn (xL dR!) a2_ h4_,q4_,(M_:Int) - 1 - c6!,q5_,([]++kl.flatMap (hs S)).map Op.v,q6_,(by rw[hp.length_eq];exact hS),q7_,iF (aK .str (Pd S) []) (Pd S),q8_,λb u e=>?_,q9_,∀b u,s.heap.get? b=some u->h'.get? b=some u]
def z'r:String:=z [ra!,Od cq! hob hF4,rb!,xs.zipIdx.map λq=>.tup [lb!,q.1],rc!,⟨h3_,h3_,I.base.free,qY_,I.base.tups,I.base.frzs,I.base.tbls⟩,rd!,s1++Str.ofString gn!++s2++Str.ofString (toString j)++s3,re!,Jz P w H h a o,rf!,AM (f:=A_) hq,rg!,.Pass ⟨0,0,0,0⟩,rh!,Bool->Hp->Prop,ri!,[aj!,as_,"ahead","follower"],rj!,ta Z H λx H1=>tb Z H1 λy H2=>R x y H2,rk!,∀v u s2 x y H2,Inv X J Z H2 s2->Dm x v->Dm y u->R x y H2->wpAny e_ X.A (f v u) Q X.xe s2,rl!,λv aj=>wpAny e_ X.A vz! (λu al=>wpAny e_ X.A (f v u) Q X.xe al) X.xe aj,rm!,Txt.join bb! nW!,rn!,p.length+q.length<=big,ro!,.Constant bd_ j pos,rp!,[at!,f2_,f3!],rq!,(by simp[nB,c]),rr!,(by rw[I.ok.glob];exact I.mod.glob.keeps I.bk),rs!,[at!,"fresh","times",as_,"time"],rt!,[z!,rs_,ay!,none],ru!,[at!,cs_,"known"],rv!,op==CmpOp.NotIn,rw!,[at!,aK!,bY_,"found","coming","page","child"],rx!,[z!,rs_,ay!,some (.lst lU_)],ry!,AQ ⟨r!,r!,ez_⟩,rz!,Gn bY! λc s1 ⟨H1,I1,q1⟩=>?_,rA!,⟨H1,I1,q1⟩,rB!,h J s Z H Q I hw,rC!,[cu_,id_,bf!,if!],rD!,[cu_,"_law_last",bf!],rE!,"_law_sibling",rF!,Gn (hc J s Z H _ I h) λd s1 ⟨H1,I1,q1⟩=>?_,rG!,(by simpa using hp),rH!,[cu_,bZ!,"_law_undone_here",bf!],rI!,.int (d:Nat),rJ!,(by simpa using hs),rK!,⟨ok.mod,ok.kind,ok.glob,ok.blt,ok.above,ok.inj,ok.has,ok.cab,ok.hd,ok.frames,ok.stk,ok.exf,ok.bs,ok.bsz,ok.noex,ok.exfs,ok.funs,ok.frf⟩,rL!,swapsWith e none pos.line X.env=pure false,rM!,.Return none pos,rN!,St->Hp->Prop,rO!,f1 Ia (Ad (Je n! Bw c3!) An),rP!,Ao (Io pC (pB t)) iT_,rQ!,.Subscript o i pos,rR!,ho J s Z H _ I h,rS!,wC e.ch wi.rnd vi.rnd g1 g2,rT!,(by rw[e.its,ei,ew]at c1;exact c1),rU!,⟨e.its,by simp only[setT,e.txt],e.num,e.ch⟩,rV!,.While c body [] pos,rX!,(d0!).flatMap eE_,rY!,(∀b∈fp,Qk X J H b),rZ!,(bk_).flatMap eE_,r0!,["enumerate","zip","dict_itemiterator","dict_reverseitemiterator","odict_iterator","itertools.zip_longest","itertools.pairwise"],r1!,if v=0 then pA l else _,r2!,xO aj_ (Ba 3 (Pa n) uW!),r3!,Gc (fT (f2 Bg w_ cf!)),r4!,Ao (pZ (Zg 1 w_)) (Az 2 (w2 Ec c4_ M!)),r5!,Cu (d:=bq_) rfl,r6!,(((mi!).toNat:Nat):Int),r7!,.Name "range" p,r8!,starEach [a] X.env=[dO_],r9!,.Call r7! [a] [] pos]
def z'rr:String:=z [ra_,e1.trans e2.symm,rb_,storeName X.env x u,rc_,λj y v' e1 e2 e3=>?_,rd_,(by simpa using I.len),re_,⟨u',r',?_⟩,rf_,z.sameBut hs (cne y c e),rg_,[k,a,.int p,.int v],rh_,[aj!,as_,f3!,"ahead","follower"],ri_,[aj!,aK!,"parent","sibling","place"],rj_,α->Shared->Prop,rk_,[aj!,vK_,aK!,"behind","text","ahead","k","sign",as_],rl_,D.str (Txt.join bb! ys),rm_,[f2_,"words",cs_],rn_,[f2_,"words","names",cs_,as_],ro_,[f2_,bY_,"left_out",cs_,as_],rp_,.Constant .none j pos,rq_,[at!,lT_,"fresh",cs_,as_,"same"],rr_,bootBuiltins x=some u,rs_,some (.int ((k:Nat)+1)),rt_,[at!,"many","found"],ru_,[at!,lT_,"many",cs_],rv_,op==CmpOp.In,rx_,[bY_,jP!,aK!,ic!],ry_,Gn (ha J s Z H Q I h) λc s1 e=>?_,rz_,(by rw[DV];unfold big;omega),rA_,[bI_,ie_,cu_,ie!,c0_,"_law_items_here",bv!,lZ_,"_law_kinds","_law_kind","_law_sign","_law_names"],rB_,[bI_,ie_,"_law_many",cu_,"_law_counts","_law_times",be_,c0_,if!,eE!],rC_,∀b,M b≠none->M' b=M b,rD_,"_law_parent_here",rE_,[bZ!,bv!,rD_,rE!,lZ!,if!,be_],rF_,[bZ!,bv!,lZ_,"_law_above"],rG_,[bZ!,bf!,eE!,l4!,"_law_good",lZ!,if!,be_,"_law_new",l4_],rH_,((d+1:Nat):Int),rI_,D.int ((d:Nat)+1),rJ_,[bI_,cu_,"_law_hand",id_],rK_,λq=>T.T q.1 q.2,rL_,((init.length+1:Nat):Int),rM_,Zl a x0 o (fd++er!) p l2_ y6,rN_,(λ_ s'=>∃hx H',Inv X J hx H' s'/\Q hx H'),rO_,(T.T 0 x).map Xy,rP_,f2 Dw n! cf!,rQ_,eval i X.env,rR_,Gn c2! λv s1 ⟨x,H1,I1,r1,q1⟩=>?_,rS_,⟨e.its,e.txt,e.num,rS!⟩,rT_,(by rw[e.its,ei,ew];exact c2),rU_,[dL!,.fn t.A8,.fn t.A9],rV_,(by rw[Mo];simp),rW_,(by rw[z];exact O),rX_,BF (I.pin p hp).1,rY_,letOwnedTupleGo tg b0_ u,rZ_,PIE X J Z tg R,r0_,l.map λz=>.int (z.2:Nat),r1_,aL (Im b1! b1! aJ),r2_,hl J s Z H _ I h,r3_,[w!,H!,dN!,H_,some c,y5,y6,y7],r4_,CW (ax.txt c) c!,r5_,Cu (d:=c) rfl,r6_,l.map λz=>D.int (z.2:Nat),r7_,Txt.mul eA! (d:Nat)++txS W c,r8_,[w!,H!,dN!,H_,some c,some (.str r7_),some mj!,y7],r9_,[w!,H!,dN!,H_,some c,some (.str (lnS W d c)),some mj!,me]]
def z's:String:=z [sa!,acc.map D.str++[.str (lnS W d c)],sb!,starEach ag! X.env=[dO_,ix!],sc!,.Call r7! ag! [] pos,sd!,Dz ml_ u! ak!,se!,De (Cf t.B5 "put_behind" 3 (Fu t) (w2 Ec cv_ ak!) mn!),sf!,Dz eH_ u! iv_,sg!,Dz sf_ u! (a6d ix_ (wl b0!)),sh!,λb O=>(iy_).1,si!,step x H5 y5,sj!,I7.pin (b,o) si_,sk!,De (Cf t.B5 "put_behind" 3 (Fu t) (w2 Ec eH_ M!) (Ac hB! (Ac kM_ Al))),sl!,c9m ha O I h λv u s2 x y H2 I2 rx ry q=>ho J s2 Z H2 x y v u Q I2 rx ry q,sm!,Bu t.B4 "written" i!,sn!,.int bw_ s.toks,so!,⟨.int bw_,H,a0_,J_,q⟩,sp!,a7m ho ha.ok O.ok,sq!,w2 Ec eH_ u!,sr!,Bs (wT (Cf t.B5 "holds" 2 (Nt t) sq! (Ac kM_ Al))) (Dz (Bu t.B4 "hidden" i!) kM_ iD!) Eu,ss!,w2 Ec sf_ u!,st!,Et (Cf t.B4 "signs_of" 2 (Hd t) i! b1_),su!,[X!,lg_,u_,none],sv!,wl (f2 Ar a3! t_),sw!,Az 1 (Ba 1 Jw a3_),sx!,compareOp .IsNot,sy!,λx y H Q=>y=.non/\Q (.bl (!decide (x=.non))) H,sz!,Bh (Vq T) e! rfl b3! aM!,sA!,hc J s3 Z H3 _ I3 q3,sB!,Ma (Kg (Qg Xn rfl T.Q4 rfl T.R6 Ej cS E_)),sC!,Gc (fT (f2 Cg bx_ (fC mC!))),sD!,Ac b4! (Ac iv! (Ac b1! Al)),sE!,Bh (Pr T) e! rfl (Ah (Hs E_ Iv c7_) Au) aM!,sF!,Gc (fT (f2 Cg bx_ (fC dM!))),sG!,Bh (Pr T) e! rfl b3! aM!,sH!,Ld aD_ Du E_ Be v!,sI!,Az 1 (Oi t.B4 1 (Oz t) Al),sJ!,wT (w2 iD_ ak! M!),sK!,Ac u! (Ac ak! (Ac (wl mF!) Al)),sL!,.builtin "ord",sM!,.int (x.cps.getD 0 0:Nat),sN!,Qg jB rfl T.Q4 rfl T.R4 Ej fH E_,sO!,.builtin "len",sP!,w1 iD (Ac (Ob dR! u! mH!) Al),sQ!,W.hasDictIn K C=true,sR!,Bs sQ_ (Hj t.B3 "outline" i! (Ba 1 (Qa t) mJ!)) Eu,sS!,Cf t.B3 "have" 2 (Ik t) i! (Ac (wl mL!) Al),sT!,w2 iH_ (wl mK_) (w2 Qj sS! (wl t_)),sU!,cx!<=sizeLine,sV!,Am (Lv T.T8 T.V3 l! cx_),sW!,Bt (Da (Av Ap At E_ (Bk Kv Kw V_ gk_) r_)),sX!,wl (f2 Ar O_ C_),sY!,wT (w2 iH_ sX! (Bu t.B3 "ours" i!)),sZ!,W.findIn K av_ "__init__"=some eO!,s0!,Result->Shared->Prop,s1!,W.makesIn K C=true,s2!,Et (w1 kK b1_),s3!,Az 4 (w2 Ec (w2 Ec u! aj_) (wl V!)),s4!,wT (w2 (λ_=>Si) ak! (Ob M! eQ_ (Ba 2 (Np t) (Ac i! (Ac eQ_ Al))))),s5!,Dz M! eQ_ ak!,s6!,fT (f1 Yd (Ad mO_ An)),s7!,Fw (Ah a4! mC_),s8!,λ_ _ _ _ _=>s7!,s9!,Qf (n:=10) rfl]
def z'ss:String:=z [sa_,starEach [b] X.env=[ix!],sb_,Cf t.B4 "has" 2 (Ga t) i! c5!,sc_,Az 4 (wIf (wT sb_) M! iv!),sd_,lw W T bd! c,se_,Dz cv_ u! iv_,sf_,Bu t.B4 "numbers" i!,sg_,.For tg iter body [] pos,sh_,T.obj _ _ mj,si_,AS _ (AS _ (Tb O e)),sj_,(T.T 0 root).map Xy,sk_,Dz sm! hB! (wl bx!),sl_,(λd=>match d with|.tup [.int k,x]=>.str (lnS W (k.toNat - 1) x)|_=>.non),sm_,Ge sj_ dr! none,sn_,(kX!).toNat - 1,so_,f2 Bb dP! G_,sp_,Az 5 (wl (f2 Bb (Je w_ Bw c3!) (Bz gh_))),sq_,intBits_le_64 B Y,sr_,tW λi j=>.int (i - j),ss_,hO.op o (hp.mem_iff.mp (u9.subset ho)),st_,λo ho=>(ss_).dg,su_,compareOp .NotEq,sv_,Bs (Gc (fT (f1 Cd c7!))) (Dz u! sv! (wl gj_)) Eu,sw_,λx y H Q=>y=.non/\Q (.bl (decide (x=.non))) H,sx_,fT (f1 Cd iH!),sy_,λx y H Q=>r x y H Q\/r' x y H Q,sz_,Gc (fT (f2 Cg bx_ (fC eL_))),sA_,b2v r r' ta tb tc,sB_,Gc (fT (f2 Cg bx_ (fC iK!))),sC_,Bh (Ps T) e! rfl mC_ aM!,sD_,Gc (fT (f2 Cg bx_ (fC gm_))),sE_,⟨H,a0_,by rw[nA r];exact q⟩,sF_,(show False from e),sG_,Gc (fT (f2 Cg bx_ (fC iL!))),sH_,Ld a3z a4j E_ Gx v!,sI_,.builtin "abs",sJ_,(λxs H Q=>∃i,xs=[be!]/\Q (.int iL_) H),sK_,Bs sJ! (De (Ba 3 (Zx t) sK!)) Eu,sL_,Hj t.B3 "ours" i! u!,sM_,(λxs H Q=>∃x,xs=[.str x]/\eN!=1/\Q sM! H),sN_,Ao (Hj t.B3 "taken" i! Jg) (Ao (Hj t.B3 "waiting" i! go!) mG_),sO_,⟨.int i_,H,a0_,⟨_,by simp only[AN];rw[ak]⟩,q⟩,sP_,W.plainGet K C name=true,sQ_,wT (w2 (λ_=>Dw) gp! b1!),sR_,Value×List Value->Shared->Prop,sS_,w2 (λ_=>Si) (wl mK_) sS!,sT_,some (.builtin "object.__setattr__"),sU_,Bs (wT (w2 iH_ (Cf t.B3 "have" 2 (Ik t) i! b1_) aL_)) (Cn aL_) Eu,sV_,Et (w2 Qj eP! u!),sW_,wT (Ba 2 (Lg t) mM_),sX_,(by rw[AJ];omega),sY_,Bs sW_ (Az 5 (w2 Ec (w2 Ec dR! sX!) (wl (f2 Gr (f2 Ar O_ t_) t_)))) (Bs sY! Mn (Az 5 (Os M! ak! aj_))),sZ_,Gc (fT AT_),s0_,λ_ _ _ _ _=>fX (Kl (Cw aD_ Du a4! V_ v!)),s1_,Bs sZ_ Mn Eu,s2_,f2 Ar G_ C_,s3_,Bk Ay Cq V_ Ae,s4_,Bs s4! Mn Eu,s5_,f1 (Eh t) a1!,s6_,λ_ _ _ _ _=>Cc (i:=0) (show([bf!]:List Str).Nodup by decide+kernel) rfl a_,s7_,De (Ba 2 (Nb t) (Ac i! (Ac (Ba 2 (Gk t) b4_) Al))),s8_,De (Tt (Os dR! (wl mL!) go!) u!),s9_,Az 2 (Dx 1 [0] (Et eP!) S! (wT (Ba 2 (Mu t) (Ac u! a3_))) i!)]
def z't:String:=z [ta!,(show∃t,u=Value.int i t from r),tb!,Gc (fT (f2 Uw (f1 Dh c7!) C_)),tc!,w2 Qj (wl t_) (Ba 1 (Ib t) a3_),td!,Bs tb_ (Ao (De (Ba 2 (Wl t) b4_)) (Cn tc!)) Eu,te!,(by rw[e];exact iS!),tf!,De (Ba 2 (Ko t) b4_),tg!,Bh (Na T) e! rfl (Ah E_ (Ah s3_ Au)) aD!,th!,Ao (Bs (Uy (wT (Cf t.B4 "has" 2 (Ga t) M! b1_))) Mn Eu) eL!,ti!,.Attribute e f pos,tj!,w2 (λ_=>Uw) (w1 iD (Ac ak! Al)) aL_,tk!,Ah (Bh gq_ e! rfl (Ah al! gr!) aD!) (Ah cy! Au),tl!,a6c (Cf t.B4 "children_of" 2 (Hf t) M! (Ac (wl (f2 Ar B! t_)) Al)),tm!,Ad (f2 Bb tl_ t_) iA!,tn!,backTo pos (starEach args X.env),to!,.Call (.Attribute e m ag) args [] pos,tp!,f2 Gr s_ t_,tq!,Cn (w2 Qj (w2 Qj (wl (f2 uO gb_ tp!)) (Cf t.B4 "text_of" 2 (Jk t) i! c5!)) (wl (sA (fC gu!) G_))),tr!,Cn (Dx 2 [1] (Et (wSl (Ba 2 (jD t) (Ac i! (Ac iu_ Al))) io! Bw)) eG! gi_ (Ba 3 (Xq t) (Ac M! b4_))),ts!,Cv (f2 Ar n! (f2 En s_ dJ_)),tt!,I1.laid (t':=s1.toks) (λb u e=>AG _ e) x_ ?_,tu!,Dy Ff Jr rfl T.Q5 Ix (Ah by_ Au),tv!,λv H2=>v=.non/\Q fU_ H2,tw!,Bz (Ad bx_ (Ad eM! iH!)),tx!,Gn mk_ λus s1 ⟨vs,H1,I1,r,q⟩=>⟨I1.kIn,?_⟩,ty!,starEach aK_ X.env,tA!,f2 En (f2 Ey s_ (f2 Bb t_ (f2 Ih av! n!))) (fC (.int 41)),tB!,starEach [] X.env,tC!,.cons rfl .nil,tD!,Fc 5 (f1 Wo c7!),tE!,Fc 6 (f1 Hn (Ad (f2 Bb (Je B! io! Bw) (Je B! Bw io!)) mY_)),tF!,Fc 7 (f1 Hn (Ad (f2 Bb B! (fC (.lst iY!))) (Ad (f1 Fe (Ad n! (Ad (f2 Bb s_ V!) An))) An))),tG!,.Call (.Name x p) [] [] pos,tH!,Fc 8 (fC (.lst [eL_,eL_,eL_,iK!,iK!,gm_,gm_,dM!,iL!,b2_,mw_,mC!])),tI!,(∀v,(x,v)∉binds),tJ!,(by simpa using B),tK!,(by simpa using Y),tL!,cellsFrom ac! scope.names [],tM!,Lp (fT (f2 Cg bi_ (fC mC!))) (Cv (Bz (Ad bi_ iA!))) Fp,tN!,([]:List Addr),tO!,λb z=>absurd z (q9 b),tP!,x.above y c (ED h),tQ!,f2 Ey O_ tH_,tR!,Bo (i:=5) Pl.nd rfl a_ tQ_,tS!,Option Value,tT!,(∀vs H Q E,sp vs H Q E->by!=S_),tU!,Fc 11 (f2 Bb (Jq 1 [] (Iz w_) S! aL! (Bz gv!)) (Hq (Ad (Bz (Ad C_ (Ad (f2 Bb t_ (f2 En O_ mZ_)) An))) An))),tV!,Gn mk_ λus s1 ⟨vs,H1,I1,r1,q1⟩=>hc J s1 Z H1 vs us Q I1 r1 q1,tW!,f2 Bb s_ (f2 Ih (fC (.int 7)) bh!),tX!,Fc 8 (f2 En bx! av!),tY!,a3o 5 b2! (f2 Bb (f2 Bb (Wp 5 b2!) t_) (f2 En (f2 Ey bx! av!) av!)),tZ!,Fc 9 (cI (f1 Tl (Ad n! (Ad (f2 Bb tW! t_) (Ad G_ (Ad mZ_ An)))))),t0!,((sIx n n hi:Nat):Int),t1!,s.heap.IsSliceOf sl vl vu .none,t2!,Az 3 (wl (cI md_)),t3!,Bk Zm Zq aE_ Ae,t4!,fT (f2 gtT (Bz (Ad (f2 Ar (Wp 1 i8_) V!) (Ad (f2 Ar (Wp 1 i8_) C_) An))) (Bz (Ad dP! (Ad bx_ An)))),t5!,.tup [b2_,mw_],t6!,sIx items.size items.size hi - sIx items.size 0 lo,t7!,Dz u! sv! (wl (f2 Cg gj_ iF!)),t8!,Str.ofString "__getitem__",t9!,((sIx items.size 0 lo:Nat):Int)]
def z'tt:String:=z [ta_,(show∃t,u=Value.str x t from r),tb_,wT (Ba 2 (Mu t) b4_),tc_,Hg.cons (j:=2) Hg.nil,td_,.ins C dx (Us f y fs),te_,if g=f then some u else mA g,tf_,Ba 2 (Sc t) mM_,tg_,λb u q=>AG _ q,th_,Az 2 (Ba 2 (Lx t) b4_),ti_,Bk Kv Kw by_ Ae,tj_,Az 5 (xM ak!),tk_,pZ (Zg 3 B!),tl_,f2 Ar B! C_,tm_,Tt ak! (wl (Bz tm!)),tn_,keywordEach [] X.env,to_,f2 Hw s_ C_,tp_,Bk Xg Xh by_ Ae,tq_,Bk Kv Kw tp_ Ae,tr_,.Tuple es x1 pos,ts_,Gn (h pos J s Z H _ I hq) λus s1 ⟨xs,H1,I1,r,z,q⟩=>⟨by rw[<-r.length];exact z,?_⟩,tt_,f2 Bb s_ t_,tu_,upd H1 dx hX!,tv_,fT (f2 Cg gj_ (fC gm_)),tw_,oQ (Kd (f1 Dh (Ad (f2 Ar a3! av!) An))) N! (Zg 1 tw!),tx_,.Attribute o m ag,ty_,backTo pos ty!,tz_,⟨I2.kIn,?_⟩,tA_,f2 Ar w_ tA!,tB_,Cw eU! eH V_ ak_ v!,tC_,Fc 4 (f1 Fe (Ad n! c4!)),tD_,(Value.ref ac!::eU_),tE_,I.hok.fresh (HS _),tF_,X.mg x=some av_,tG_,Lp (fT (Gp "str" bx!)) (Fc 7 cf!) Fp,tH_,fC (.int 12),tI_,Fc 9 (f2 Ar b2! (f2 En O_ tH_)),tJ_,Lp (fT (f2 Cg bi_ (fC eL_))) (Cv (Bz (Ad bi_ (Ad (f1 Hn (Ad B! mY_)) i0!)))) Fp,tK_,Lp (fT (f2 Cg bi_ (fC iK!))) (Cv (Bz (Ad bi_ (Ad bh! (Ad (f1 Hn (Ad B! (Ad (f1 Fe (Ad n! (Ad (f2 Bb s_ av!) An))) An))) i0!))))) Fp,tL_,fD CX P w K mg base N qual scope f cd A outer s H E,tM_,(show b∈tN! from z),tN_,Fc 10 (f1 Hn (Ad (f1 Wm c7!) (Ad (f1 Fe (Ad n! (Ad (f2 Bb s_ b0!) An))) An))),tO_,Lp (fT (f2 Cg bi_ (fC gm_))) (Cv (Bz (Ad bi_ (Ad bh! (Ad i2_ (Ad (f1 cE (Ad (f1 Fe (Ad n! (Ad (f2 Bb s_ mZ_) An))) iH!)) An)))))) Fp,tP_,Ak bz! (Ak aT! (Ak cx_ Bd)),tQ_,Do P_ Cj a5! bz! r_,tR_,Lp (Gb (fT (f2 Cg bi_ (fC dM!))) (fT (f2 Bg i2_ cf!))) (Cv (Bz (Ad bi_ (Ad bh! (Ad i2_ (Ad (f2 Bb t_ (f2 En tQ! (f2 Gr ga_ (f2 Ar i2_ V!)))) An)))))) Fp,tS_,W.fnOf name qual params body scope dV kV bo pm an ae ct,tT_,Lp (fT (f2 (a5a false) bi_ (fC (.tup [dM!,iL!])))) (Cv (Bz (Ad (fC iL!) (Ad bh! (Ad (f2 En tQ! b0!) (Ad (f2 Gr (f2 En (f2 Ey O_ (fC (.int 48))) (fC (.int 2000))) (fC (.int 1000))) An)))))) Fp,tU_,Cv (Bz (Ad bi_ (Ad (f1 Hn (Ad (Aa 11) mY_)) An))),tV_,Rc I hg hm hv ?_ hn be,tW_,Fc 7 (f1 Fe (Ad n! (Ad tW! An))),tX_,a3o 4 b2! (f2 Bb (Wp 4 b2!) t_),tY_,if v<0 then(m4_).toNat else min v.toNat n,tZ_,if v<0 then max m4_ 0 else min v (n:Int),t0_,Zg 3 (Bz (Ad (f2 Ar (fC (.lst [G!,(.int 5),(.int 15)])) b2!) (Ad (Wp 4 b2!) (Ad (Wp 5 b2!) (Ad bi_ An))))),t1_,Dy Ff Jr rfl T.Q5 Ix eQ!,t2_,fT (f2 Uw G_ C_),t3_,Av Ap At (fB (i:=1) c! t3! r_) Ae r_,t4_,pZ (b3k 1 G_ w_),t5_,wl (fC t5!),t6_,wT (w2 bw! (wl gj_) t5_),t7_,Ji (Bm (fW T) e! rfl da_),t8_,f2 Hw a1_ s_,t9_,t9!==0&&(1:Int)==1&&t6!==da!]
def z'u:String:=z [ua!,fT (f2 Rz B! eZ!),ub!,fT (f2 Hw ua_ w_),uc!,fT (f2 Bg G_ cf!),ud!,f2 Ar O_ bh!,ue!,fT (f2 Cg ud! ud_),uf!,Az 5 (wl (f2 Bb bh! t_)),ug!,f2 Bb (Je O_ Bw e0!) (Hq uf_),uh!,s3.heap.objs.size,ui!,Az 3 (Dx 1 [1] m6_ S! (Gc (fT uh_)) (wl dK!)),uj!,BN (gP xs lo hi) hz,uk!,wl (fC (.tup [gb!,ma!])),ul!,Uy (wT (Ba 3 Xr (Ac i! iy!))),um!,De (Ba 4 Lz ul_),un!,f2 Cg eM! ik_,uo!,Ac aL_ (Ac aL_ (Ac aL_ ix_)),up!,Ah Ae (Ah Ae ne_),uq!,Bk Ay Cq V_ (Bk dZ eB Ae bL!),ur!,fB (i:=5) c! b5! r_,us!,(by rw[hj];simpa using ew),ut!,w2 Ec jc_ b4!,uu!,λr s'=>r=w/\EP X J Z Q r s',uv!,f1 Dh (Ad B! An),uw!,f2 Cg uv_ dP!,ux!,f1 Dh (Ad a3! An),uy!,Ad (f2 Bb w_ (Bz a1!)) (Ad (f2 Ar nb! n!) (Ad (fC E!) An)),uz!,f2 Bb (Je B! Bw e0_) b2!,uA!,Dz bj! b4! (wl (f2 Bb uz! uz_)),uB!,upd H p (.lst (xs.set j v)),uC!,Do P_ Cj nh_ x! r_,uD!,(by rw[hk];exact⟨_,I',q⟩),uE!,Az 9 (Dx 1 [2] (Qu (Kd a3!)) S! gi_ (wl (f2 Bb uB_ (Bz ni!)))),uG!,if a then 1 else 0,uH!,Im i9_ mH! (Im (wl (fC na!)) Jg (Im nd_ Jg aJ)),uI!,Az 2 (Ba 1 Sg a3_),uJ!,Ad s2_ (Ad (f2 Ar G_ t_) An),uK!,λw hw=>mG rx fx r fs w m4!,uL!,De (Ba 2 a8p mn!),uM!,Et (w2 Ec bj! u!),uN!,(by simp only[AN]<;>omega),uO!,Et (Ba 2 Qr b4_),uP!,(λ_ e=>nomatch e),uQ!,Az 6 (w2 Ec jc_ ak!),uR!,f2 Bb (f2 Bb B! uQ_) (f1 sR i0!),uS!,⟨⟨o,e,ex.1⟩,λa e2=>?_⟩,uT!,Slot T name id,uU!,attributeBase o name X.env c3_=eval o X.env,uV!,.Attribute o name ag,uW!,Ac i! (Ac ak! (Ac (wl (f2 Bb w_ t_)) Al)),uX!,Ad n! (Ad (fC l6_) An),uY!,cZ P w s.heap es ks,uZ!,Ac (wl av!) Al,u0!,List.replicate k its,u1!,Az 3 (Ba 1 (jC t) c5!),u2!,Obj.mapSeq f,u3!,Do P_ Cj u3_ x! r_,u4!,Bs (Gc (Ui (Fk nn!) (Fk nn_))) (Cn m9_) Eu,u5!,Cn (w2 eqM aj_ (Ba 3 (Pa 20) (Ac (Ba 1 jE b1_) (Ac iu_ ix_)))),u6!,gj.toArray.size,u7!,AM (f:=b!) w,u8!,Dr (Sw T) e! l! (Ak gx_ Bd),u9!,⟨h.nd,J!,λa ha b O=>by simp at O;subst O;exact λz=>h.no jm!⟩]
def z'uu:String:=z [ua_,f2 Ar (f2 Ar O_ B!) t_,ub_,Az 5 (wl (f2 Bb B! t_)),uc_,Option Int->Hp->Prop,ud_,Bz (Ad G_ c7!),ue_,Gc (Gb uc! ue!),uf_,Ad (Bz (Ad s_ c7!)) An,ug_,Je O_ e0! Bw,uh_,f2 Cg a1_ s_,ui_,Bs (Gc (Fk (λρ=>((G_) ρ).bind a9r))) (Cn m9_) Eu,uj_,(r.drop m8_).take m9!,uk_,Do P_ Cj (Af bL!) (Af cy!) r_,ul_,Ac i! (Ac u! (Ac M! mm_)),um_,Ad mL! (Ad mK_ An),un_,Az 4 (a9n gB! (wl un!)),uo_,Ac i! (Ac aj_ (Ac (wl (Xt (fT O_) eM! il!)) (Ac gk! Al))),up_,call eX! (v::us),uq_,fB (i:=4) c! b5! r_,ur_,Dz ut! gk! (wl a3!),us_,⟨z,H,I,ao,q⟩,ut_,slot_list_getitem.lookup,uu_,(by rw[AN]<;>omega),uv_,f2 Ar (f2 Ar B! bx!) C_,uw_,Bs (Gc (fT uw!)) (Az 6 (wl (f2 Bb bx! t_))) Eu,ux_,(·.setIfInBounds j u),uy_,Az 8 (Dx 1 [2,3] (Qu (Kd ux!)) S! gi_ (wl (Bz uy!))),uz_,Je B! e0_ Bw,uA_,CT _ _ (AK O),uB_,Je gC_ Bw c3!,uC_,f2 Ar gC_ V!,uD_,Af (Ld Xe Xj V_ Gx v!),uE_,Dr (Pt T) e! l! dX!,uF_,Dz bj! b4! (Dx 1 [9] (Qu (Iz B!)) S! gi_ (b9h (Ac (wl a1_) (Ac (wl dK!) (Ac (Yf (wl dK_) (w2 iD_ (wl a1_) u!)) Al))))),uG_,if b then 1 else 0,uH_,Az 1 (aL uH!),uI_,wT (w2 iD_ (wl (f2 Ar mF! C_)) t5_),uJ_,Uy (wT (Ob M! (wl (Bz uJ!)) m9_)),uK_,(show its.toArray.any gD!=its.any gD! by simp),uL_,f2 Cg dK! s_,uM_,λh' c' kp e=>fin its r' hz h' c' kp e,uN_,Do P_ Cj jf_ x! r_,uO_,Az 5 (w2 Qj (wl (f2 uO gb_ w_)) (Ba 2 Nc (Ac i! (Ac ak! Al)))),uP_,bM y_ (Ow cx_ cx_ mD),uQ_,fC (.str " ["),uR_,fC (.str "="),uS_,⟨o,e,ex.2.1⟩,uT_,typeOf eX!=pure (.type "method_descriptor"),uU_,(Az 5 (w2 Qj (w2 Qj (wl (f2 Bb uR! uR_)) (w1 (λ_=>sR) (Ac nj_ Al))) (wl (fC (.str "]"))))),uV_,Gn rR! λv s1 ⟨x,H1,I1,r1,ty,q1⟩=>?_,uW_,backTo ab lO_,uX_,List.replicate k xs,uY_,Az 1 (wl (f1 Sf (Ad n! nl_))),uZ_,Az 2 (Oi t.B3 2 (Xs t) uZ!),u0_,De (Ba 2 (wG t) iy!),u1_,o.data=.dict es ep,u2_,Ad (Jq 1 [] (Iz G_) S! aL! mc!) An,u3_,Ch T.T9 T.U6 l!,u4_,λ_ _ q=>AG _ q,u5_,.lst (xs++zs),u6_,λ_ _ _ _ _=>Cc (i:=0) (show([as_,aj!]:List Str).Nodup by decide+kernel) rfl a_,u7_,AM (f:=b!) z,u8_,⟨h.no,h.nd⟩,u9_,Xl (i:=2) (NL:=bG_) (NF:=aS!) (ix:=[0]) Hk.nd rfl a_ rfl c! o! (Dp (sc:=Ai Jh) rfl o!) np_ c! rfl (Ji gF!) (λ_ _ _ _ _=>Cc (i:=0) (show([cs_,at!]:List Str).Nodup by decide+kernel) rfl a_) aM_ (λ_ _ _ _ _=>fX (Lu (Bm (Zo T) e! rfl (Ak x! da_)))) mU!]
def z'v:String:=z [va!,Heap.SameBut a s.heap h',vb!,(by rw[P];simp[hm]),vc!,λz=>fq.2.2 _ z _ c_ rfl,vd!,starEach [e,f] X.env,ve!,["check","part"],vf!,pre_splitW vk,vg!,Bi jq! b0 a0,vh!,bf.2.2 _ this _ c_,vi!,(∀b,b≠f->b≠p->M' b=M b),vj!,(by rw[AU];exact hl),vk!,Params->W.Frag,vl!,(∀(s:Shared) (u:Value),BindsTo s fd js! [(x,u)]),vm!,Fun K x qual st f fd,vn!,Ld aD_ Du mP! Be v!,vo!,eL (Mb (Bh (Vs T) e! rfl b3! aM!)),vp!,backTo pos lO_,vq!,["place","value"],vr!,⟨o.slots,e⟩,vs!,[.int a,.int b,.int c],vt!,cells.lookup n,vu!,u'++[cD_]++v,vv!,AM (f:=b!) this,vw!,(by rw[<-z];exact hq),vx!,V->V->Hp->Prop,vy!,aF cells r _ x h,vz!,eval b X.env,vA!,Ch T.T8 T.V3 l!,vB!,Bm (Ys T) e! rfl da_,vC!,Av Ap At al! Ae r_,vD!,ForInStep.yield ok,vE!,.obj t.B4 Z_,vF!,[aj!,"names",as_],vG!,w.sg x L q hq,vH!,([]:List Value),vI!,([]:List (Str×Value)),vJ!,.inr (.inr ⟨cV_,rfl⟩),vK!,eval cZ_ X.env,vL!,I8.pin (b,o) si_,vM!,[aj!,aK!,"first","many","k",as_],vN!,X.env.kindOf y.1=some .cell\/X.env.kindOf y.1=some .free,vO!,∀cl C al bc fp,PE cb! dm te,vP!,Gn (az J s Z H _ I h) λv s1 B=>Gn B λve s2 Y=>?_,vQ!,λz=>r1 (q.mpr z),vR!,λb o O e=>(bu.2 b O).trans e,vS!,ff c (pp x c h),vT!,λx c h=>(vS!).2,vU!,∀a kvs,Rd H a dQ_->Rd H' a dQ_,vV!,(by rw[z];exact ju),vW!,λ_ _ q=>e.seq q,vX!,⟨a,vs,rfl,h,r⟩,vY!,cutT [s] bl_,vZ!,⟨v,B,Y.mono x.g⟩,v0!,⟨_,_,_,_,_,_,_,_,_,_,_,_,q1⟩,v1!,(d7_).map λk=>.tup gS_,v2!,Beh cy U (U++v),v3!,ttD X.K own f,v4!,∀Z G H Q ρ d,OR X.K own G H Z ρ->ft ρ=some d->(∀G' H',Ed G H G' H'->Q d H')->t Z H Q,v5!,(by rw[z];exact hA.r5),v6!,⟨r,f,p,g1,?_,g3,g4,g5⟩,v7!,OR X.K own G H Z ρ,v8!,setT W i (U++(nZ!).map d9_++v),v9!,λx H'=>∃k,x=.bl k/\Q k H']
def z'vv:String:=z [va_,λa ha b O=>?_,vb_,bf.2.2 a ha b O,vc_,starEach [e] X.env,vd_,ns.map WData.int,ve_,(show(ve!:List Str).Nodup by decide+kernel),vf_,Bi jp_ a0 b0,vg_,gd.2.2 _ this _ c_,vh_,T.V4 _ rfl rfl rfl rfl,vi_,(by rw[km];simp),vj_,⟨?_,⟨_,_,_,_,(mup_ne h.ne).trans mup_same,mup_same,K'⟩,h.ne⟩,vk_,∀(w:World) (h:Heap),YP w h->(bM_).In h,vl_,(u++n::v++bL_),vm_,∀(kV bo pm:Value) (an:a6_) (ae ct:Value) (us:h_),ar!=S_->bindArgs nz_ c9_=pure c8_,vn_,K.lookup f=some ⟨oc,od,.func nz_,du⟩,vo_,.inl (.inl (e _ _ h)),vp_,.inl (.inr ⟨o,e _ _ h⟩),vq_,(show(vq!:List Str).Nodup by decide+kernel),vr_,[.int a,.int b],vs_,Str×NameKind,vt_,ForInStep.yield ((name,a)::r),vu_,ForInStep (List e8!),vv_,(by simpa using hk),vw_,(if(k==gI_)=true then _ else _)=_,vx_,λp hp=>hn p jx_,vy_,⟨_,h.mem.mpr aB_,rfl⟩,vz_,X.N[j]?=some x,vA_,∀b∈fp,b<N_,vB_,if x=n then[.int 0,.int 0,.int 0,.int 0]else W.num x,vC_,Str.ofString "hidden",vD_,.ListComp dm [⟨q8,iter,cr,0⟩] scope pos,vE_,(show([jP!,aK!,bY_]:List Str).Nodup by decide+kernel),vG_,[⟨tg,iter,cr,0⟩],vH_,R (.lst bk_) M,vI_,(λv z=>by cases z),vJ_,λ_ _=>False,vK_,"operation_name",vL_,mup_ne (AK p2),vM_,∀a p,(a,p)∈W.rows->rk p<rk a,vN_,∀cl C al bc fp,iJ cb! cr tt,vO_,c4a NL.length ix wi g tt te,vP_,(∀p,a8_∉W.rows),vQ_,⟨BV (BE O hC),BV (BE O hD)⟩,vR_,.inr (BN I2.sz hC),vS_,λx c h=>(vS!).1,vT_,∀a vs,Jf K H a vs->Jf K H' a vs,vU_,Bc.map ht hl hd xs vs r,vV_,λ_ _ q=>Df e q,vW_,λ_ _ q=>a6s e q,vX_,r.mono (Pm h),vY_,((jI_).map b!)=_,vZ_,Z[i]?=some cd_,v0_,(by rw[show hb+(js.length+1)=hb+1+js.length by omega];simpa using h'),v1_,(d7_).map λk=>z+aZ!,v2_,(U++(s,c,true)::v),v3_,⟨λJ s Z H Q I ⟨G,ρ,d,er,e,k⟩=>h J s Z H Q I nW_⟩,v4_,Cb M1 a5 nX!,v5_,ar _ ff_ ff_ ff_,v6_,[at!,as_,bY_],v7_,[aX_,aN_,.int (k':Nat)],v8_,a7o ho ha.ok O.ok hm,v9_,b4z hr ha.ok O.ok hs]
def z'w:String:=z [wa!,a7d ho ha.ok O.ok hm,wb!,⟨_,_,_,rfl⟩,wc!,⟨b3z h.ok⟩,wd!,(D.tup jP_,D.str am!,true),we!,setT W i (U++n2!::v),wf!,(by rw[hl,BJ];exact BG _ z),wg!,b5b ha.ok O.ok,wh!,λv G2 H2 s2 r2=>k v G2 H2 dl_ r2,wi!,c4m ha.ok O.ok,wj!,if i∈W.its then setT W i (wrT b ea_ bl_)else W,wk!,zK hc.ok ha.ok O.ok,wl!,(by rw[<-Aq r1];exact Lw hl),wm!,s1.sub.free hp,wn!,lQ hc hg hm hv ha.ok hn be he av,wo!,qW hc hg hm hv ha.ok hn be he av,wp!,(aK_).length=S_,wq!,[c0_,ie!,lY_],wr!,∀ρ ds,fs ρ=some ds->f_=n,ws!,(by rw[AT];omega),wt!,K5 c (oa!).1 (oa!).2.1 (oa!).2.2,wu!,K5 c (ob!).1 (ob!).2.1 (ob!).2.2,wv!,mup_ne (nq c hc),ww!,k _ G H aP! (hg _ _ G),wx!,λi j=>decide (0<=j)&&decide (j<=1000000)&&decide (dP_<2 ^ 64),wy!,.bl (qE i j),wz!,PO X hi (toD X.K own oh),wA!,zJ (SlR.or b2z a6p) ha.ok hl hh,wB!,s4.trans g2!,wC!,hg.chl_same w.rnd,wD!,λa z=>(by subst z;cases e2),wE!,(λxs H Q=>∃p ys,xs=gD_/\oj_/\∀l,H l=none->Q jh! jh_),wF!,.builtin "all",wG!,(∀d,ds[i]?=some d->ac.go i H'/\∀x fg,ac.yld i H' x fg->∃rj,Ed G' H' rj fg/\Bl K rj d x),wH!,Ac jY_ (Ac (wl f2) Al),wI!,⟨cH_,λhi=>by rw[AU,EY]at hi;exact HC hi.symm⟩,wJ!,ItD K ac ds G1,wK!,[z!,dn_,some a,ea!,none],wL!,ttD X.K [] ft,wM!,a7n ce b9 j4 ic cap calm az.ok hg hi wL_ hs,wN!,Qd w.rnd db z,wO!,Sj (rows:=W.rows) (i:=i),wP!,swapsWith e (some dm_) pos.line X.env=pure false,wQ!,a3x hN hi L h.ok hs hf,wR!,⟨G',ρ,r,er.grow x',e2,k⟩,wS!,λj d q n=>?_,wT!,λz=>absurd z.symm cu,wU!,cs.map λ_=>true,wV!,(j2_).any λd=>Ir d ba!,wW!,[e].length+(dX_).length+e2!<30,wX!,Gs h.ok Ku bz,wY!,DE X own ix fx,wZ!,Zk hN yi hd bv,w0!,(n::r).map D.int,w1!,λi hi p e=>?_,w2!,[j5_,a,b,dm!],w3!,F.ok S (λvs H Q E h=>h.1) (λae A outer s H vs Q E hr h=>?_),w4!,⟨er,Ed.refl sub,am_⟩,w5!,⟨_,_,rfl,b1,b2,b3,b4⟩,w6!,(by unfold Co at h;exact h),w7!,.lst (.str "root"::ys),w8!,(by rw[AN,AN,<-h3,<-h4,<-B,<-Y];simpa using hl),w9!,[az_,oA_,w8_,y]]
def z'ww:String:=z [wa_,⟨d,rfl,nZ_⟩,wb_,⟨a7b h.ok⟩,wc_,b4a ha.ok O.ok,wd_,⟨G1,ρ,d,dk_,e,λG2 H2 s2=>k G2 H2 dl_⟩,we_,c4j ha.ok O.ok,wf_,⟨b4v h.ok⟩,wg_,λv G1 H1 s1 r1=>?_,wh_,k _ G1 H1 s1 Bl.bl,wi_,k _ G1 H1 s1 Bl.bl,wj_,[bI_,be_,c0_],wk_,Gs h.ok hs.ok bz,wl_,s1.trans (Ed.laid s1.sub hp),wm_,[cu_,id_,bf!,be_],wn_,⟨G,ρ,ds,er,e1,λvs G1 H1 s1 r1=>hd s1.sub r1 e' λv G2 H2 s2 r2=>k v G2 H2 dl_ r2⟩,wo_,spF X.K ps.length g,wp_,∀ρ ds,fs ρ=some ds->f_=S_,wq_,[bo!,bo!,bo!,bo!],wr_,Cb eb_ a4 ec!,ws_,(by rw[CH];decide),wt_,mup_ne (nq c (fw c jU!)),wu_,if c=r1 then _ else _,wv_,∀i j H,Bl K H bw_ (gv i j),ww_,λ_ j=>decide (0<j)&&decide (j<1073741824),wx_,c≠r1/\c≠f1/\c≠p1,wy_,PO X lo (toD X.K own ol),wz_,.Subscript a m8! pos,wA_,λG3 H3 s3=>?_,wB_,(by rw[y];exact z),wC_,c1 r' ai! ai! ai! ai! ai! ai! ai!,wD_,(λxs H Q=>∃x n,xs=[x]/\c9u K x H n/\Q go_ H),wE_,λp hp=>k _ _ _ g2! (Ew fg_ rr),wF_,mup_ne (AK (nq a4 (fw a4 (s3 a4 A4)))),wG_,i=f_->ac.stop i H',wH_,(λ(r:Fl) (M':Mh)=>match r with|.rt d=>R d M'|.nx _=>R .non M'),wI_,c8f K 2 (a1d eF! (a1d (cG j) c8g)),wJ_,⟨Ek (by rw[<-Aq ao];omega),?_⟩,wK_,((oo_).mono x3.g).mono x4.g,wL_,λx0 x1 x2 x3 x4=>(he x0 x1 x2 x3 x4).ok,wM_,λac G1 H1 x1 fh=>?_,wN_,tsD X.K G0 F0 own h2 f,wO_,DS X own bi st q1,wP_,.Assign [cH!] e pos,wQ_,.If c b1 b2 pos,wR_,s.or.sub.trans yg,wS_,aw r' bC_ bC_ bC_ bC_ bC_,wT_,cs.map λ_=>D.bl true,wU_,(λb u e=>by rw[Bn (hG e)];exact s.or.sub b u e),wV_,.nx (ρ.set i (some (.lst (ds++[d])))),wW_,.Call (.Attribute bo_ "append" ag) [e] [] ab,wX_,ρ.set i (some (.lst (ds.set k d))),wY_,.Subscript bo_ ix p2,wZ_,λiv G2 H2 x2 r2=>?_,w0_,(x.trans x2).h _ _ h3,w1_,Ed G0 F0 G1 H1,w2_,Fun K x qual st σ fd,w3_,O ae A outer s H E hr,w4_,λy=>NameG y,w5_,lA I xs ys vs n n' rr bx,w6_,(if j7_<=big then Option.map D.lst (Jy _ _ _ ch_ ops)else none)=_,w7_,(List.range (min us.toArray.size oz_)).all (λj=>Ir oy_ oz!)&&ka_==oz_,w8_,some (.tup [.int h',aN_,.int tm,.tup w2!]),w9_,yQ I _ _ _ n n' r r']
def z'x:String:=z [xa!,A.units+Oa d<cLine,xb!,Ei g g' fa fb fc,xc!,⟨[],rfl,rfl⟩,xd!,(r2.mono s3.g).mono s4.g,xe!,[none,some go_,some oD_],xf!,letters.cps.toList.length,xg!,[some go_,bp!,some oD_],xh!,ha.ok J s Z H _ I h,xi!,sSeq d3i (sSeq c8p xh_),xj!,b6o (k:=oF_) r1,xk!,List D->Option D,xl!,λi _=>i<fn_,xm!,x.cps.toList.map λc=>.str am!,xn!,Ge its dr! none,xo!,⟨(HA.mp hc).1,λv fg hy=>?_⟩,xp!,λi h=>i<=fn_/\St' i h,xq!,ys.map V.str,xr!,Nat.ble ds.length 1000=true,xs!,AQ (Nat.le_of_ble_eq_true hl),xt!,λw G2 H2 s2 r2=>?_,xu!,s.heap.IsTuple tt xs,xA!,("cut"==k||"set"==k),xB!,Mm (g:=a5a false) (x:=.str k) rfl rfl (in2 k "cut" "set"),xC!,firstArgMember _ _,xD!,wpAny_handled ?_,xE!,AC (wpAny_throw ?_),xF!,zW rfl rfl e1,xG!,ys[k2]?=some y,xM!,Ds g1 b6.extBut D.i1z,xN!,uM xM! xM_ gx λY MY bj=>AC ?_,xO!,FQ sk rfl ?_,xP!,Builtin.SmallTypes.nextOf oM!>>=_,xQ!,((iq.extBut b6.extBut D.l2z).extBut bj.extBut D.l2i1).extBut c9.extBut D.l2TO,xR!,xs[k1]?=none\/ys[k2]?=none,xS!,(by unfold Gb;rw[cJ rfl (DY _)];rfl),xT!,F.entry_zip_next,xU!,"StopIteration",xV!,zp2 s.heap l1 l2,xW!,a∈W.its/\Kh W b/\¬Wn W.rows a b,xX!,wrT b hi_ ap!,xY!,(nZ!).map d9_,xZ!,⟨fO.2.2.2.1,fO.2.1,fO.2.2.2.2.1,fO.2.2.2.2.2⟩,x0!,⟨f1.2.2.2.1,f1.2.1,f1.2.2.2.2.1,f1.2.2.2.2.2⟩,x1!,⟨f2.2.2.2.1,f2.2.1,f2.2.2.2.2.1,f2.2.2.2.2.2⟩,x2!,Kk W hj_ rows',x3!,(nH!).resolve_right e,x4!,setT W a xX!,x5!,λc o _ _ _ e _=>vr!,x6!,λc o _ e=>⟨o,e⟩,x7!,(λc o u e=>by rw[oU_];exact e),x8!,I1.hok c o e,x9!,(λd q=>by rw[oV_];exact q)]
def z'xx:String:=z [xa_,⟨dx,dy,rx.mono sub,ry.mono sub,h.1.1,h.1.2,h.2,ed!⟩,xb_,⟨G,ρ,x,er,e1,λv G1 H1 s1 r1=>⟨G1,ρ,y,dk_,e2,λw G2 H2 s2 r2=>hg s2.sub gW! r2 e3 λt G3 H3 s3 r3=>?_⟩⟩,xc_,⟨bb,rfl,?_⟩,xd_,nh.trans (s4.trans s5),xe_,.bl (if neg then !(ds.any λd=>Ir d x)else ds.any λd=>Ir d x),xf_,L2.Key×Value,xg_,λJ s Z H Q I h=>?_,xh_,sSeq c2r (sSeq dq14 dq15),xi_,mixKind X.prog X.w,xj_,Ok X.prog X.w X.K X.mg X.base k x ps g,xk_,[X!,ao_,az_,bp!,none,none,none,none,none,none,none,none],xl_,λi _=>fn_<=i,xm_,Ge its dr! none++Ge its none dr!,xn_,Ge its none dr!,xo_,∀i h,St' i h->∃o,h.get? it=some o/\∀v,o.data≠.cell v,xp_,λi h st=>MX _ i h st,xq_,.str (Txt.join z ys),xr_,if f_<=1000 then _ else _,xs_,Gs ha.ok Ku hs,xt_,s.heap.IsTupleIter jt tt n,xu_,Builtin.SmallTypes.nextOf oJ_,xx_,[do_,.int base,.lst ops,.int most],xz_,Obj.cls_mapFields ..,xA_,.tup [j6!,item,.int (m0 / 12%4),.int (m0 / 48%2000 - 1000)],xB_,newExc (.type "StopIteration") []>>=_,xC_,(by first|rfl|(simp only[firstArgMember];rfl)),xD_,show A.in1.handled=none from hh,xE_,((eg_).extBut.push _).push _,xF_,xs[k1]?=some x,xG_,Builtin.«zip.__next__» ⟨[.ref z],[]⟩,xL_,Builtin.SmallTypes.nextOf oM_>>=_,xM_,ik.extBut b6.extBut D.l1z,xN_,b6.extBut _ _ D.TOz gO,xO_,JM sk λh3 vw c9=>?_,xP_,Ds (Ds (Ds g2 b6.extBut D.i2z) bj.extBut D.i12.symm) c9.extBut D.TOi2.symm,xQ_,c9.extBut _ _ D.TOz.symm (bj.extBut _ _ D.i1z.symm lj),xR_,b6.extBut _ _ c1 x,xS_,⟨_,gz,rfl⟩,xT_,F.args_zip_next_1 _,xU_,zp1 s.heap l1,xV_,zp3 s.heap l1 l2,xW_,a∈W.its/\Kh W Di/\¬Wn W.rows a Di,xX_,[aX_,aN_,g8!],xY_,⟨fz.2.2.2.1,fz.2.1,fz.2.2.2.2.1,fz.2.2.2.2.2⟩,xZ_,D.tup cj_∉pre,x0_,pre++[.tup cj_],x3_,hg.winv w.inv hc.1 hc.2.1 hc.2.2,x4_,λc o _ _ _ e _=>e,x5_,λc o hc e n=>?_,x6_,(λc xs e=>by rw[oU_];exact e),x7_,λc ps e=>⟨#[],by rw[oU_,e];simp⟩,x8_,(List.range m'.toNat).map λk=>.tup gS_,x9_,λv hv q hq=>?_]
def z'y:String:=z [ya!,ft ρ=some true,yb!,X.mg "zip"=none,yc!,starEach ag! X.env=dO_::starEach [b] X.env,yd!,.Call (.Name "zip" p) ag! [] pos,ye!,Ac (wl f2) (Ac (wl f3) Al),yg!,⟨G,ρ,_,er,e1,λv G1 H1 s1 r1=>⟨G1,ρ,_,dk_,e2,xt!⟩⟩,yj!,k="undo"\/k="redo",yl!,W.fnOf x x jw_ bN! bA! .none kV bo pm an ae ct,ym!,W.codeIn K ae x=true,yn!,λx L=>h x bQ_,yo!,λ_ K hK=>hK,yp!,(λz=>by simp at z),yq!,Sum.inr.inj z,yr!,k="undo"\/k="redo",ys!,fs.map Value.ref,yt!,.tup [kv_,hm!],yu!,(show v=.none from L),yv!,λx=>Cg x ba!,yw!,(show o5!=true by decide+kernel),yx!,Yb ks k=some j,yy!,aK o8_ os hb,yz!,aK .str os acc,yA!,((Ar o.v aC_).bind λx=>Ar x aS_)=_,yB!,(by unfold aK;rw[hu];exact B),yC!,λM' bd y' B Y=>hR M' bd y' yB! Y,yD!,s.heap.get? d=some o,yE!,[bS_,none,none],yF!,(by rw[br.length_eq];simp;omega),yG!,λe=>hh (by rw[q3,e];simp),yH!,(λx=>by simp),yI!,ks[i]?=some k',yJ!,(by rw[<-e];exact q1),yK!,[bS_,H_,aq!,none,none],yL!,λi p h=>yK_,yM!,[root,Di].Nodup,yN!,mup_ne (AK jw),yO!,jH ho hc hd (by simp[c0o]),yP!,EL (s:=el_) ho hd ?_,yQ!,es.eraseIdx j,yR!,(by simpa using am),yS!,(by rw[cv,i1];rfl),yT!,My P w K G H a c,yU!,MR P w K M1 G1 H1,yV!,⟨?_,Y.mono x.g ?_⟩,yW!,D->Mh->Prop,yX!,if root=root then _ else _,yY!,(if root=Di then _ else(if Di=Di then _ else _))=_,yZ!,∀Z G H Q ρ M R,xF X.prog X.w X.K own G H Z ρ M->ft ρ M R->(∀d M' G' H',R d M'->XM M G H M' G' H'->MR X.prog X.w X.K M' G' H'->Q d H')->t Z H Q,y0!,xF X.prog X.w X.K own G H Z ρ M,y1!,(∀x∈os,x.nm∉pre),y2!,k _ M1 G1 H1 r1 x1 m1,y3!,k _ M1 _ G1 H1 r1 x1 m1 Bl.bl,y4!,(show hb+20*(os.length+1)=hb+20+20*os.length by omega),y5!,x1.sub.free hp,y6!,(by rw[show Op.nm x=Op.nm y from z.symm];exact AM hy),y7!,∀c,rl c≠.oth->M' c=M c,y8!,(ops.map Op.nm).Nodup,y9!,[bS_,z!,none,none,none]]
def z'yy:String:=z [ya_,ft ρ=some false,yb_,bootBuiltins "zip"=some oO_,yc_,(backTo pos (starEach [b] X.env)).any b!=false,yd_,[z!,dn_,some d],ye_,Ac jY_ (Ac (wl f2) (Ac (wl f3) (Ac (wl f4) Al))),yh_,(λx y H Q=>tW (λi j=>.bl mz!) x y H Q\/∃i j,x=.str i/\y=.str j/\Q wy! H),yi_,Mc K mg x st ps,yk_,W.nsIn K mainGlobals x=some eO!,yl_,K.lookup f=some ⟨oc,od,.func yl!,du⟩,ym_,∀(kV bo pm:Value) (an:a6_) (ae ct:Value) (us:h_),ar!=S_->bindArgs yl! c9_=pure c8_,yn_,rows.map (c5v w),yo_,(Sum.inr r.1:L2.Key)=Sum.inr y,yp_,Ug gu! ku!=some v,yq_,⟨rfl,rfl,rfl⟩,yr_,fs.map V.ref,ys_,(λxs H Q=>(∃i,xs=[be!]/\gn_<1920/\Q mF_ H)\/∃z,xs=[.str z]/\Q (.str z) H),yt_,∀a,k' (f a)=k a,yu_,(a.map Op.key).Nodup,yv_,HL hT FV.lookup ?_,yw_,(show o5_=true by decide+kernel),yx_,aK .str os A,yy_,.nx [H!,H_,y'],yz_,⟨trivial,hR M ep y hp λb _=>rfl⟩,yA_,Cb M p (.dct (Bi acc a T_) (Lk acc a ep)),yB_,Option Nat->Shared->Prop,yC_,dictWalkPlain d u dv! es ky!,yD_,(by simpa using b7),yE_,λo ho=>hd o (br.mem_iff.mp ho),yF_,λM' ep y B Y=>hR p M' ep hp B λb O=>(Y b O).trans fw!,yG_,(∀b,b≠q->M' b=M b),yH_,[H!,H_,aq!,X_,z],yI_,az=none/\rest.find? du_=Yb ks k,yJ_,(pb_).getD .non,yK_,(by simp[W0]at h),yL_,cH (s:=el_) hu x hk ho hd ?_,yM_,⟨by rw[AV];exact a6w,J!⟩,yN_,dictSet a u v,yO_,(by rw[zu,qj];simp),yP_,.obj t.B4 hu_,yQ_,Builtin.Dict.takeOut a u,yR_,Dg fa! (.fn a4) pi_,yS_,.ins C dx vs,yT_,Value->Sem Value,yU_,(by rw[hM];simp),yV_,MR P w K M' G' H',yW_,List D->Mh->Prop,yX_,tmT X.prog X.w X.K own f,yY_,⟨λJ s Z H Q I ⟨G,ρ,M,R,st,e,k⟩=>h J s Z H Q I pl_⟩,yZ_,⟨_,by assumption,h⟩,y0_,⟨_,rfl,k _ M' G' H' r' x' m'⟩,y1_,⟨G1,ρ,M1,R,kH!,r1,λd M2 G2 H2 r2 x2 m2=>k d M2 G2 H2 r2 cl! m2⟩,y2_,λd M2 v G2 H2 r2 x2 m2 q2=>k d M2 v G2 H2 r2 cl! m2 q2,y3_,h5 q (by rw[ou];simp) ju,y4_,x1.trans (.ext pr!) m1,y5_,λy hy z=>?_,y6_,⟨B,Y.mono (Cr.refl G) (Bn O)⟩,y7_,⟨r',f',p',v1,v2.keep (k _ bC_) (k _ cJ!) (k _ cJ_),v3,v4,v5⟩,y8_,(∃pre,pX W' pre),y9_,[bS_,z!,aq!,none,none]]
def z'z:String:=z [za!,hp.mem_iff.mp L,zb!,(λx _=>by simp),zc!,(by rw[e3,e1];exact O),zd!,∀au s',Inv X J Z kJ_ s'->My X.prog X.w X.K G kJ_ a zc_->Q () s',ze!,some (.lst (l.map Op.v)),zf!,⟨_,rfl,CA h⟩,zg!,⟨o,rfl,h ho⟩,zh!,acc.map Op.v,zi!,DF fin (λah s' ⟨e1,o,q1,q2,q3⟩=>?_) λ_ _ z=>z,zj!,[bS_,eo_,none,none],zk!,gN (A:=X.A) a! I m sub e ⟨_,r,rx⟩ hk λs' I'=>AC ⟨.bl _,H,I',rfl,q⟩,zl!,Bi acc u.2 fu!,zm!,[q.1,q.2.1,.bl q.2.2],zn!,oH X.prog X.w X.K r g,zo!,⟨eq!,rfl,hk_,du!⟩,zp!,decide (q.2=x),zq!,λz=>Cg z x,zr!,∀q∈rs,Sd q.1/\Sd q.2,zs!,Cb M2 q.1 (.lst (q.2++[v])),zt!,.bl (!decide ((dx_).2=p)),zu!,.Attribute o "get" ag,zv!,⟨yv,q2,ry⟩,zw!,(fE_).grow x2 m2,zx!,((List.range' k m)).map λj=>D.int pt_,zy!,⟨yv,q2.mono x3.g,ry⟩,zz!,ifT (by rw[cond,BK z]) ?_,zA!,(by rw[cond,AW z]),zB!,a5z M w rl W wt wn qa,zC!,s.heap.push {cls:=.type "dict",data:=.dict #[]},zD!,dE s.heap.objs.size [] 0,zE!,λb _ hr=>zD_,zF!,I.laid (t':=s.toks) u4_ x_ ⟨⟨D0,EC.mpr (AK (BV I.big)),CI _⟩,let⟨o,h,_⟩:=D0;ps_,za_⟩,zG!,[w!,I_,cc_,cI_,none,none,none],zH!,!decide (q.1=i),zI!,compareOp .Is,zJ!,.inl ⟨rfl,λj hj=>by omega⟩,zK!,Cb M c (.dct (acc++kvs) (n+aB!)),zL!,ForInStep PUnit,zM!,⟨wt,wn,qa,g1⟩,zN!,Cb M s.heap.objs.size D_,zO!,λj hj p e=>?_,zP!,λb o e O=>?_,zQ!,MS X own bi st q1,zR!,Gc (knd "put"),zS!,⟨G',ρ,M',R,sr.grow x m,r,k1,k2⟩,zT!,Me (Gc (knd "set")) a0z,zU!,Bs (Me (Gc (knd "write")) a0z) wN (Bs (Me (Gc (knd "cut")) a0z) b7u Eu),zV!,(zU_).grow x2 m2,zW!,Me (Gc ft) fu,zX!,b=false->q2 ρ M R,zY!,.write m3 x3.sub hM,zZ!,λd M' v G' H' r x m q=>?_,z0!,MSs X own own body q1,z1!,Y _ _ _ _ _ _,z2!,(λd=>match d with|.int k=>D.tup z1_|_=>.non)∘λi=>D.int cP_,z3!,[w!,K!,k5!,fG_,o4,hI_,o6,o7,o8,some hI!],z4!,wi.sg a ha q hq,z5!,l[j]?.map b!,z6!,[w!,K!,z5_,fG_,y4,some k4!,hE_,y,none,none],z7!,decide ((l[k]).1=b),z8!,∀cl C al bc fp,iJ cb! cr z7_,z9!,Dx NL.length ix fi bnd ft fe]
def z'zz:String:=z [za_,λB Y z q=>?_,zb_,(hz_).nodup_iff.mpr nn,zc_,.dct pj_ (Lk kvs d ep),zd_,kget kvs d=some x,ze_,((j+1:Nat):Int),zf_,.builtin "dict.get",zg_,Builtin.Dict.keyAndDefault,zh_,wO I B D' bu h4 ?_,zi_,IQ (AC ⟨_,rfl,q3⟩),zj_,BEq.comm (a:=Str.ofString "undo"),zk_,BEq.comm (a:=Str.ofString "redo"),zl_,Lk acc u.2 ep,zm_,if _ then _ else bE_,zn_,x1.trans kT! m1,zo_,Ed.laid sub hl,zp_,⟨ys,z,rfl⟩,zq_,Addr×List aA!×Nat,zr_,(match rs[k]? with|some q=>!decide (q.2=p)|none=>false),zs_,Dh [.lst eq_]=_,zt_,(f1 Dh gh_ br!).bind (λz=>Rz fB_ z)=_,zu_,GA (FB (ha.run I1 fE_ r1 λy M2 yv G2 H2 iv s2 r2 x2 m2 q2 I2 ry=>GT ?_)),zv_,[K!,I_,cc_,cI_,fE!,hE_,y],zw_,O.run I2 zw! r2 λz M3 zv G3 H3 jv s3 r3 x3 m3 q3 I3 rz=>GT ?_,zx_,(bU_).mono x3.g,zy_,⟨zv,q3,rz⟩,zz_,.Attribute o "pop" ag,zA_,.inr ⟨j,r!,Y,h3⟩,zB_,compareOp .Gt,zC_,⟨_,dN_,yq_,rfl⟩,zD_,⟨aw b d4!,hr⟩,zE_,(by rw[hA.rn];simp),zF_,⟨[],Db,.nil,FX⟩,zG_,List aA!->Mh->Prop,zH_,MP X own pos keys jm fp,zI_,PUnit->Shared->Prop,zJ_,(rs.take a++bA_::rs.drop a),zK_,.lst ((eq_).drop a),zL_,.lst ((eq_).take a++[Cs bA_]),zM_,λq=>decide fF_,zN_,tmS X.prog X.w X.K M0 G0 F0 own h2 f,zO_,Ed G k1! G' H',zP_,AI (λhr=>by rw[(s.root hr).2]at e;cases e),zQ_,Y.ok M0 G0 F0,zR_,Gc (knd "move"),zS_,Gc (knd "drop"),zT_,⟨λM0 G0 F0 J s Z H E I ⟨G,ρ,M,R,sr,e,k1,k2⟩=>e.elim⟩,zU_,sr.grow x1 m1,zV_,Aa 2 ρ=some oX!,zW_,b=true->q1 ρ M R,zX_,.Subscript o i p2,zY_,∀K:D->Mh->Prop,fo ρ M K=K x M,zZ_,l.any λd=>Ir d x,z0_,(ap!).length<5000,z1_,[fe_,fe!,.int (z+k)],z2_,λK hK=>?_,z3_,(s,c,b&&!decide (s∈cp)),z4_,show Ci q=.tup zm! from rfl,z5_,some (.tup [j5_,a0,b,tx]),z6_,⟨mz,cb.mr,am_⟩,z7_,tmT X.prog X.w X.K [] ft,z8_,∀cl C al bc fp,ME cb! [] dm fe,z9_,⟨ii.or.cap NL.length ix m9,m1,am_⟩]
end
open Lean in
local macro_rules|`($s:ident)=>match s.getId with|.str .anonymous t=>let c:=t.back;if c=='!'||c=='_' then match (let b:=c=='!';if t.length<3 then if b then z'0 else z'00 else match t.front with|'a'=>if b then z'a else z'aa|'b'=>if b then z'b else z'bb|'c'=>if b then z'c else z'cc|'d'=>if b then z'd else z'dd|'e'=>if b then z'e else z'ee|'f'=>if b then z'f else z'ff|'g'=>if b then z'g else z'gg|'h'=>if b then z'h else z'hh|'i'=>if b then z'i else z'ii|'j'=>if b then z'j else z'jj|'k'=>if b then z'k else z'kk|'l'=>if b then z'l else z'll|'m'=>if b then z'm else z'mm|'n'=>if b then z'n else z'nn|'o'=>if b then z'o else z'oo|'p'=>if b then z'p else z'pp|'q'=>if b then z'q else z'qq|'r'=>if b then z'r else z'rr|'s'=>if b then z's else z'ss|'t'=>if b then z't else z'tt|'u'=>if b then z'u else z'uu|'v'=>if b then z'v else z'vv|'w'=>if b then z'w else z'ww|'x'=>if b then z'x else z'xx|'y'=>if b then z'y else z'yy|'z'=>if b then z'z else z'zz|_=>if b then z'0 else z'00).splitOn ("\r"++t++"\r") with|[_,f]=>do return z'Z (.fromRef (<-getRef)) f|_=>Macro.throwUnsupported else Macro.throwUnsupported|_=>Macro.throwUnsupported
open Lean in
local macro_rules|`(tactic|push_cast)=>`(tactic|show"pc!")|`(tactic|push_cast[$x,*])=>match z't't.splitOn "\rpc!\r" with|[_,f]=>do let s:=(z'Z (.fromRef (<-getRef)) f)[1][1][0][0][0];return s.setArg 4 (s[4].setArg 1 (mkNullNode (s[4][1].getArgs.push (mkAtom ",")++x.elemsAndSeps)))|_=>Macro.throwUnsupported
open Lean in
local macro_rules|`(tactic|show$s:str)=>match z't't.splitOn ("\r"++s.getString++"\r") with|[_,f]=>do let q:=z'Z (.fromRef (<-getRef)) f;let q:TSyntax ``Lean.Parser.Tactic.tacticSeq:=⟨q[1][1]⟩;`(tactic|($q))|_=>Macro.throwUnsupported
set_option hygiene true
open Lean in
def z'N:Nat->Syntax->Syntax
|n+1,.node _ k a=>.node .none k (a.map (z'N n))
|_,.atom _ v=>.atom .none v
|_,.ident _ r n p=>.ident .none r n p
|_,x=>x
open Lean in
local macro_rules(kind:=Lean.Parser.Command.declaration)|x=>if x.getPos?.isNone||x[1].isOfKind ``Parser.Command.theorem then Macro.throwUnsupported else let k:=z'N 9999 x[1];match k.isOfKind ``Parser.Command.definition,(x[0].reprint.getD "").trimAscii.toString with|true,""=>do return z'N 9999 (<-`(theorem $(⟨k[1]⟩):declId $(⟨.node .none ``Parser.Command.declSig #[k[2][0],k[2][1][0]]⟩):declSig $(⟨k[3]⟩):declVal))|true,"nonrec"=>do return z'N 9999 (<-`(noncomputable def $(⟨k[1]⟩):declId $(⟨k[2]⟩):optDeclSig $(⟨k[3]⟩):declVal))|_,_=>return z'N 9999 x
open Lean in
local macro_rules|`(universe $x*)=>do let p:=`PySem.Challenge;let c:=p.str "cw_manyhands_k26_lines_of_it_holds";return mkNullNode (<-(p.str "pw_manyhands_k26_lines_of_it"::x.toList.map (λi=>c.str i.getId.toString)++(List.range 768).map λn=>c.str s!"o_{n+43}").toArray.mapM λn=>do return z'N 99 (<-`(noncomputable def $(mkIdent (PySem.W.Fast.stemOf n).1):ident:=0)))
universe env_41 heap_39 heap_46 heap_811 sts_101 sts_116 sts_159 sts_224 sts_254 sts_305 sts_49 sts_507 sts_544 sts_602 sts_680 sts_71 sts_763 sts_86 tree_100 tree_115 tree_158 tree_221 tree_253 tree_304 tree_421 tree_47 tree_503 tree_543 tree_601 tree_679 tree_70 tree_762 tree_810 tree_85 view_39
local macro_rules|`(tactic|omega)=>`(tactic|first|lia|omega +splitDisjunctions)
theorem z'Hd{G:Prop}(h:∀g:Prop,(G->g)->g):G:=h G λx=>x
local macro_rules|`(tactic|obtain $p:rcasesPatMed:=$e:term)=>do let s:=p.raw.reprint.getD "";if (s.splitOn ",").length>2+(s.splitOn "rfl").length then `(tactic|first|(refine z'Hd λg k=>?_;rcases $e:term with $p:rcasesPatMed<;>refine k ?_<;>clear g k)|rcases $e:term with $p:rcasesPatMed) else `(tactic|rcases $e:term with $p:rcasesPatMed)
noncomputable section
namespace L2
open PySem PySem.Spec PyProof.Rows
abbrev Key:=Sum Int Str
nonrec def mY:Key->Value->Bool
 |.inl k,v=>Value.isInt k v
 |.inr x,v=>Value.isStrOf x v
nonrec def d2t(w:World):Key->Int
 |.inl k=>hashInt k
 |.inr x=>hashStr w x
def Ct:∀{k:Key} {v:Value},mY k v=true->(∃i t,k=Sum.inl i/\v=Value.int i t)\/(∃x t,k=Sum.inr x/\v=Value.str x t)
 |.inl i,v,h=>by
  obtain⟨t,e⟩:=Value.isInt_shape (k:=i) (v:=v) h;exact .inl ⟨i,t,rfl,e⟩
 |.inr x,v,h=>by
  obtain⟨t,e⟩:=Value.isStrOf_shape (x:=x) (v:=v) h;exact .inr ⟨x,t,rfl,e⟩
def rS(i:Int)(t:Tok):mY (.inl i) dC!=true:=by simp[mY,Value.isInt]
def eR(x:Str)(t:Tok):mY (.inr x) lv_=true:=by simp[mY,Value.isStrOf]
def c7w(a b:Int):decide (lv!=Sum.inl b)=fS!:=by
 by_cases e:a=b
 .subst e;simp
 .have h:¬lv!=Sum.inl b:=λq=>e (Sum.inl.inj q);rw[AW h];exact(EC.mpr e).symm
def c7t(a b:Str):decide (lw!=Sum.inr b)=decide (a=b):=by
 by_cases e:a=b
 .subst e;simp
 .have h:¬lw!=Sum.inr b:=λq=>e (Sum.inr.inj q);rw[AW h,AW e]
def c7v(a:Int)(b:Str):decide (lv!=Sum.inr b)=false:=AW qy!
def c7u(a:Str)(b:Int):decide (lw!=Sum.inl b)=false:=AW qy!
nonrec def mixKind(prog:Program)(w:World):PySem.KeyKind prog w Key where
 is:=mY
 hash:=d2t w
 inj:=λv a b ha O=>by
  rcases Ct ha with⟨i,t,rfl,rfl⟩|⟨x,t,rfl,rfl⟩
  .rcases Ct O with⟨j,u,rfl,e⟩|⟨y,u,rfl,e⟩
   .injection e with e1 _;rw[e1]
   .exact lw_
  .rcases Ct O with⟨j,u,rfl,e⟩|⟨y,u,rfl,e⟩
   .exact lw_
   .injection e with e1 _;rw[e1]
 byValue:=λk v h=>by
  rcases Ct h with⟨i,t,rfl,rfl⟩|⟨x,t,rfl,rfl⟩<;>rfl
 pyHash:=λhv h=>by
  rcases Ct hv with⟨i,t,rfl,rfl⟩|⟨x,t,rfl,rfl⟩
  .exact wpAny_pyHash_int h
  .exact wpAny_pyHash_str h
 eqBool:=λhu hv h=>by
  rcases Ct hu with⟨i,t,rfl,rfl⟩|⟨x,t,rfl,rfl⟩
  .rcases Ct hv with⟨j,u,rfl,rfl⟩|⟨y,u,rfl,rfl⟩
   .rw[c7w]at h;exact wpAny_eqBool_int h
   .rw[c7v]at h;exact SeqAt.EqAt.int_str i t y u _ _ _ _ h
  .rcases Ct hv with⟨j,u,rfl,rfl⟩|⟨y,u,rfl,rfl⟩
   .rw[c7u]at h;exact SeqAt.EqAt.str_int x t j u _ _ _ _ h
   .rw[c7t]at h;exact wpAny_eqBool_str h
 «strs»:=λk x t v h=>by
  rcases Ct h with⟨i,u,rfl,e⟩|⟨y,u,rfl,e⟩
  .exact lw_
  .injection e with e1 _
   subst e1;cases v<;>rfl
def a0c(prog:Program)(w:World)(i:Int)(t:Tok):(qy_).is (.inl i) dC!=true:=rS i t
def Vw(prog:Program)(w:World)(x:Str)(t:Tok):(qy_).is (.inr x) lv_=true:=eR x t
end L2
namespace L2
open PySem PySem.Spec PyProof.Rows
inductive V where
 |non|bl (b:Bool)|int (i:Int)|str (x:Str)|byt (b:Array UInt8)|flt (b:UInt64)|ref (a:Addr)|ty (n:String)
 deriving DecidableEq
nonrec def Dm:V->Value->Prop
 |.non,u=>u=cT!
 |.bl b,u=>u=Value.bool b
 |.int i,u=>∃t,u=Value.int i t
 |.str x,u=>∃t,u=Value.str x t
 |.byt b,u=>∃t,u=Value.bytes b t
 |.flt b,u=>∃t,u=Value.float b t
 |.ref a,u=>u=Value.ref a
 |.ty n,u=>u=Value.type n
abbrev Ce:List V->List Value->Prop:=Paired Dm
def Ce.length{xs:k_}{us:h_}(r:fT!):i_=ar!:=FI r
def Ce.get:∀{xs:k_} {us:h_} {i:Nat} {x:V},Ce xs us->xs[i]?=some x->∃u,us[i]?=some u/\Dm x u
 |_,_,_,_,.nil,e=>by simp at e
 |_,_,0,_,.cons r _,e=>by simp at e;subst e;exact lx!
 |_,_,i+1,x,.cons _ t,e=>by
  obtain⟨u,B,Y⟩:=Ce.get (i:=i) (x:=x) t cT_;exact⟨u,hS_,Y⟩
def Ce.set{x:V}{u:Value}(r:Dm x u):∀{xs:k_} {us:h_} (i:Nat),Ce xs us->Ce (xs.set i x) (us.set i u)
 |_,_,_,.nil=>.nil
 |_,_,0,.cons _ t=>.cons r t
 |_,_,i+1,.cons q t=>.cons q (Ce.set r i t)
def Ce.append:∀{xs ys:k_} {us ws:h_},Ce xs us->Ce ys ws->Ce fT_ (us++ws)
 |_,_,_,_,.nil,s=>s
 |_,_,_,_,.cons r t,s=>.cons r (Ce.append t s)
def Ce.take:∀{xs:k_} {us:h_} (n:Nat),Ce xs us->Ce (xs.take n) (us.take n)
 |_,_,0,_=>.nil
 |_,_,_+1,.nil=>.nil
 |_,_,n+1,.cons r t=>.cons r (Ce.take n t)
def Ce.drop:∀{xs:k_} {us:h_} (n:Nat),Ce xs us->Ce (xs.drop n) (us.drop n)
 |_,_,0,r=>r
 |_,_,_+1,.nil=>.nil
 |_,_,n+1,.cons _ t=>Ce.drop n t
nonrec def cW:Option V->Option Value->Prop
 |some v,some u=>Dm v u
 |none,none=>True
 |_,_=>False
nonrec def KV{κ:Type}:List (κ×V)->List lx_->Prop:=Paired λ(p:κ×V) (q:κ×Value)=>p.1=q.1/\Dm p.2 q.2
nonrec def kV:Key->V
 |.inl i=>.int i
 |.inr x=>.str x
inductive HO where
 |lst (xs:k_)
 |tup (xs:k_)
 |dK (kvs:List (Key×V))|dT (kvs:hT_)
 |set (S:Int->Bool) (n:Nat)
 |ins (C dx:Addr) (fs:ev!)
 |own (x:Addr)
 |xd (fs:ev!)
 |met (f x:Addr)
 |rng (lo hi:Int)
 |frz (o:Obj) (u:HO)
 |tbl (ps:ab!)
 |ext (φ:Heap->Prop)
abbrev Hp:=Addr->Option HO
nonrec def upd(H:Hp)(a:Addr)(o:HO):Hp:=λb=>if b=a then some o else H b
def Db{H:Hp}{a:Addr}{o:HO}:upd H a o a=some o:=by unfold upd;rw[j!]
def Bn{H:Hp}{a b:Addr}{o:HO}(h:b≠a):upd H a o b=H b:=by unfold upd;rw[AI h]
def Ea{H:Hp}{a b:Addr}{o:HO}(h:H a=some o)(h':H b=none):a≠b:=by intro e;subst e;rw[h]at h';cases h'
section
variable(P:Program)(w:World)
nonrec def Jz(H:Hp)(h:Heap)(a:Addr):HO->Prop
 |.lst xs=>i_<=sizeLine/\∃(its:h_) (n:Nat),Ce xs its/\h.get? a=some {cls:=.type "list",data:=.seq its.toArray n}
 |.tup xs=>i_<=sizeLine/\∃its:List Value,Ce xs its/\IsTup h a aQ_
 |.dK kvs=>aB!<=sizeLine/\dD!=false/\∃vs,KV kvs vs/\h.DictOf br_ a vs
 |.dT kvs=>aB!<=sizeLine/\dD!=false/\∃xs:List lz!,
   Paired (λ(p:List Key×V) (q:List Key×Addr×Value)=>p.1=q.1/\H q.2.1=some qB_/\Dm p.2 q.2.2) kvs xs/\
   ∃o es ep,h.get? a=some o/\hU_/\o.data=.dict es ep/\es.toList=xs.map (entryOfKey fU!)/\(xs.map b!).Nodup
 |.set S n=>h.SetOf (intKind P w) a S n
 |.ins C dx fs=>H dx=some f0_/\bs!<=1000/\dx≠a/\h.get? a=some lA!/\
   ∃mA,h.Ns1 dx mA/\qE!/\PySem.Within mA lM_
 |.own _=>∃o,h.get? a=some o
 |.xd fs=>∃mA,h.Ns1 a mA/\∀f,cW (fs.lookup f) (mA f)
 |.rng lo hi=>∃t u v,h.get? a=some {cls:=.type "range",data:=.fields #[.int lo t,.int hi u,.int 1 v]}
 |.frz o u=>h.get? a=some o/\Jz H h a u
 |.tbl ps=>h.get? a=some {cls:=.none,data:=.fields ps}
 |.met f x=>h.get? a=some (W.methodObj af_ fU_)
 |.ext φ=>φ h/\(∃o,h.get? a=some o)/\∀B Y:Heap,φ B->(∀o,B.get? a=some o->Y.get? a=some o)->φ Y
nonrec def cX(H:Hp)(h:Heap):Prop:=∀a o,H a=some o->Jz P w H h a o
end
section
variable{P:Program}{w:World}{H H':Hp}{h h':Heap}{a:Addr}{o:HO}
def Jz.lt(x:re!):a<cU!:=by
 cases o with
 |lst xs=>obtain⟨_,_,_,_,e⟩:=x;exact BF e
 |tup xs=>obtain⟨_,_,_,p⟩:=x;exact p.lt
 |dK kvs=>obtain⟨_,_,_,_,o,_,_,e,_⟩:=x;exact BF e
 |dT kvs=>obtain⟨_,_,_,_,o,_,_,e,_⟩:=x;exact BF e
 |set S n=>obtain⟨o,_,_,_,e,_⟩:=x;exact BF e
 |ins C dx fs=>obtain⟨_,_,_,e,_⟩:=x;exact BF e
 |own y=>obtain⟨_,e⟩:=x;exact BF e
 |xd fs=>obtain⟨_,⟨_,_,_,e,_⟩,_⟩:=x;exact BF e
 |rng lo hi=>obtain⟨_,_,_,e⟩:=x;exact BF e
 |frz ob u=>obtain⟨e,_⟩:=x;exact BF e
 |tbl ps=>exact BF qF_
 |met f y=>exact BF qF_
 |ext φ=>obtain⟨_,⟨_,e⟩,_⟩:=x;exact BF e
def Paired.mapP{α β:Type}{F G:cU_}:∀{l₁:K_} {l₂:dD_},Paired F l₁ l₂->(∀a b,F a b->G a b)->Paired G l₁ l₂
 |_,_,.nil,_=>.nil
 |_,_,.cons r t,f=>.cons (f _ _ r) (Paired.mapP t f)
def Jz.stay(x:re!)(k:∀b u,(b=a\/H b=some f0_)->h.get? b=some u->h'.get? b=some u)
  (ho:∀b,H b=some f0_->H' b=some f0_)(ht:qH!):Jz P w H' h' a o:=by
 induction o with
 |lst xs=>obtain⟨z,its,n,r,e⟩:=x;exact⟨z,its,n,r,bG!⟩
 |tup xs=>obtain⟨z,its,r,ob,e,c⟩:=x;exact⟨z,its,r,ob,bG!,c⟩
 |dK kvs=>obtain⟨z,y,vs,r,ob,es,ep,e,c⟩:=x;exact⟨z,y,vs,r,ob,es,ep,bG!,c⟩
 |dT kvs=>
  obtain⟨z,y,xs,r,ob,es,ep,e,c⟩:=x;exact⟨z,y,xs,Paired.mapP r λp q z=>⟨z.1,ht _ _ z.2.1,z.2.2⟩,ob,es,ep,bG!,c⟩
 |set S n=>obtain⟨ob,es,ep,t,e,c⟩:=x;exact⟨ob,es,ep,t,bG!,c⟩
 |ins C dx fs=>
  obtain⟨d,z,ne,e,mA,⟨od,es,ep,e2,c⟩,r⟩:=x;exact⟨ho _ d,z,ne,bG!,mA,⟨od,es,ep,k _ _ (.inr d) e2,c⟩,r⟩
 |own y=>obtain⟨ob,e⟩:=x;exact⟨ob,bG!⟩
 |xd fs=>obtain⟨mA,⟨od,es,ep,e,c⟩,r⟩:=x;exact⟨mA,⟨od,es,ep,bG!,c⟩,r⟩
 |rng lo hi=>obtain⟨t,u,v,e⟩:=x;exact⟨t,u,v,bG!⟩
 |frz ob u ih=>obtain⟨e,q⟩:=x;exact⟨bG!,ih q⟩
 |tbl ps=>
  have e:h.get? a=some {cls:=.none,data:=.fields ps}:=x;show h'.get? a=some {cls:=.none,data:=.fields ps};exact k a _ aB_ e
 |met f y=>
  have e:h.get? a=some qJ!:=x;show h'.get? a=some qJ!;exact k a _ aB_ e
 |ext φ=>obtain⟨p,⟨o,e⟩,st⟩:=x;exact⟨st _ _ p λo q=>k _ _ aB_ q,⟨o,bG!⟩,st⟩
def cX.lt(x:bs_)(e:H a=some o):a<cU!:=(x a o e).lt
def cX.fresh(x:bs_)(e:cU!<=a):H a=none:=by
 cases q:H a with
 |none=>rfl
 |some u=>exact absurd (BE (x.lt q) e) dF!
def cX.kept(x:bs_)(k:hW_):cX P w H h':=λa o e=>
 (x a o e).stay (λb u _ q=>k b u q) lB! λ_ _ q=>q
def cX.laid(x:bs_)(k:hW_)(hp:cU!<=a)(new:Jz P w cV! h' a o):cX P w cV! h':=λb u e=>by
 have hn:=x.fresh hp;by_cases O:b=a
 .show"!|";exact new
 .rw[Bn O]at e;exact(x b u e).stay (λc v _ q=>k c v q) (λc q=>by rw[fY!];exact q) λc xs q=>by rw[fY!];exact q
end
nonrec def Rd(H:Hp)(a:Addr)(u:HO):Prop:=H a=some u\/∃o,H a=some fY_
def Rd.ok{P:Program}{w:World}{H:Hp}{h:Heap}{a:Addr}{u:HO}(r:Rd H a u)(x:bs_):Jz P w H h a u:=by
 rcases r with r|⟨o,r⟩
 .exact x a u r
 .obtain⟨_,q⟩:=x a _ r;exact q
nonrec def Mut:Option HO->Prop
 |some (.lst _)=>True
 |some (.dK _)=>True
 |some (.dT _)=>True
 |some (.set _ _)=>True
 |some (.ins _ _ _)=>True
 |some (.ext _)=>True
 |_=>False
section
variable{P:Program}{w:World}{H:Hp}{h h':Heap}{x e:Addr}{o':HO}
def cX.write(ok:bs_)(mu:lC_)(he:lB_)(k:qM_)(pb:lC!)
  (new:Jz P w (upd H x o') h' x o'):cX P w (upd H x o') h':=λb u q=>by
 have LH:∀c y,H c=some (.own y)->c≠x:=λc y r z=>by subst z;rw[r]at mu;exact mu
 have QJ:∀c xs,H c=some bc_->c≠x:=λc xs r z=>by subst z;rw[r]at mu;exact mu
 by_cases O:b=x
 .subst O;rw[Db]at q;cases q;exact new
 .rw[Bn O]at q;by_cases mh:b=e
  .have q':H b=some hX!:=by
    rcases he with z|z
    .exact absurd (mh.trans z) O
    .rw[mh];exact z
   rw[q]at q';cases q';obtain⟨v,hv⟩:=pb;exact⟨v,by rw[mh];exact hv⟩
  .refine(ok b u q).stay (λc v hc r=>k c v ?_ r) (λc r=>by rw[Bn (LH c b r)];exact r) λc xs r=>by rw[Bn (QJ c xs r)];exact r
   rcases hc with rfl|hc
   .exact mh
   .rintro rfl;rcases he with z|z
    .exact LH c b hc z
    .rw[hc]at z;cases z;exact O rfl
end
structure Un(fs ex:ar_)(H H':Hp)(h h':Heap):Prop where
 keep:∀b o,h.get? b=some o->H b=none->b∉fs->b∉ex->h'.get? b=some o
 slot:∀b o,h.get? b=some o->H b=none->b∈fs->b∉ex->∃sl,h'.get? b=some {o with slots:=sl}
 free:∀b o,h.get? b=some o->H b=none->b∉ex->H' b=none
 there:∀b o,h.get? b=some o->b∉ex->∃o',h'.get? b=some o'
 tups:∀b xs,H b=some bc_->H' b=some bc_
 frzs:∀b o u,H b=some fY_->H' b=some fY_
 tbls:∀b ps,H b=some (.tbl ps)->∃pe,H' b=some qO!
section
variable{fs va ex XN:List Addr}{H H1 H2:Hp}{h B Y h':Heap}{a x e:Addr}{o:HO}
def Un.any(u:Un fs ex H H1 h B){b:Addr}(q:h.get? b=some ob)(n:H b=none)(L:b∉ex):∃sl,B.get? b=some {ob with slots:=sl}:=by
 by_cases O:b∈fs
 .exact u.slot b ob q n O L
 .exact⟨ob.slots,u.keep b ob q n O L⟩
def Un.kept(k:hW_):Un fs ex H H h h':=
 ⟨λb ob q _ _ _=>k b ob q,λb ob q _ _ _=>⟨ob.slots,k b ob q⟩,λ_ _ _ n _=>n,λb ob q _=>⟨ob,k b ob q⟩,λ_ _ q=>q,λ_ _ _ q=>q,λ_ ps q=>⟨#[],by rw[q];simp⟩⟩
def Un.refl:Un fs ex H H h h:=Un.kept λ_ _ q=>q
def Un.laid(k:hW_)(hp:cU!<=a)(hn:hZ!):Un fs ex H cV! h h' where
 keep:=λb u q _ _ _=>k b u q
 slot:=λb u q _ _ _=>⟨u.slots,k b u q⟩
 free:=λb u q n _=>by rw[Bn (BV (BE (BF q) hp))];exact n
 there:=λb u q _=>⟨u,k b u q⟩
 tups:=λb xs q=>by rw[fY!];exact q
 frzs:=λb u xs q=>by rw[fY!];exact q
 tbls:=λb ps q=>⟨#[],by rw[fY!,q];simp⟩
def Un.write(mu:lC_)(he:lB_)(k:qM_)(pb:lC!):Un fs ex H lD_ h h':=by
 have L:∀b,H b=none->b≠x:=λb n z=>by subst z;rw[n]at mu;exact mu
 have O:∀b,H b=none->b≠e:=λb n z=>by
  subst z;rcases he with r|r
  .exact L b n r
  .rw[n]at r;cases r
 have hm:∀b u,H b=some u->¬Mut (some u)->b≠x:=λb u q nm z=>by subst z;rw[q]at mu;exact nm mu
 refine⟨λb u q n _ _=>k b u (O b n) q,λb u q n _ _=>⟨u.slots,k b u (O b n) q⟩,λb u q n _=>by rw[Bn (L b n)];exact n,λb u q _=>?_,
  λb xs q=>by rw[lE_];exact q,λb u xs q=>by rw[lE_];exact q,λb ps q=>⟨#[],by rw[lE_,q];simp⟩⟩
 by_cases mh:b=e
 .subst mh;exact pb
 .exact⟨u,k b u mh q⟩
end
nonrec def trk(h:Heap)(H:Hp):List Addr:=(qQ_).filter λa=>(H a).isSome
nonrec def wD(h:Heap)(H:Hp):Heap:=W.hideAll h lF!
def b1k(h:Heap)(H:Hp):(hZ_).objs.size=cU!:=W.hideAll_size _ _
def b7a{h:Heap}{H:Hp}{b:Addr}{o:Obj}(e:qR_)(n:H b=none):(hZ_).get? b=some o:=
 W.hideAll_get _ e λhm=>by
  have q:(H b).isSome=true:=(DO.mp hm).2;rw[n]at q;simp at q
def c1k{h:Heap}{H:Hp}{b:Addr}{o:Obj}(e:(hZ_).get? b=some o):h.get? b=some o/\H b=none:=by
 have e':h.get? b=some o:=W.of_hideAll lF! e;refine⟨e',?_⟩;cases q:H b with
 |none=>rfl
 |some x=>
  have hm:b∈trk h H:=DO.mpr ⟨GM.mpr (BF e'),by simp[q]⟩;have z:(hZ_).get? b=none:=W.hideAll_none lF! hm;rw[z]at e;cases e
nonrec def c3m(g h:Heap)(ay:Addr):List ex!:=(qQ_).filterMap λa=>if a=ay\/(g.get? a).isSome=true then none else(h.get? a).map λo=>(a,o)
nonrec def rest(g h:Heap)(ay d:Addr):List ex!:=(c3m g h ay).filter λp=>decide (p.1≠d)
end L2
namespace L2
open PySem PySem.Spec PyProof.Rows
structure Mod(K:W.Frag)(mg:C!)(base:Heap):Prop where
 kin:K.In base
 glob:base.Ns mainGlobals mg
 blt:∃mb,base.Ns builtinsNs mb/\∀x:Str,x≠"__name__"->mb x=bootBuiltins x
 nolimit:base.NoLimit
structure Cx where
 prog:Program
 w:World
 K:W.Frag
 mg:Str->Option Value
 base:Heap
 A:Around
 N:List Str
 s₀:Shared
 H₀:Hp
 env:Env
 outer:List Env
 stack:List Env
 ex:List Addr
 fn:Str->Bool
 calm:Bool
 pn:List ex!
 xe:Value->Shared->Prop
nonrec def frs(l:as!):List Addr:=l.filterMap (·.frame)
abbrev Cx.fs(X:Cx):List Addr:=frs X.outer
nonrec def Vis(sc:Scope)(x:Str):Prop:=sc.names.lookup x=some .local\/sc.names.lookup x=some .cell\/sc.names.lookup x=some .free
nonrec def Loc(sc:Scope)(x:Str):Prop:=sc.names.lookup x=some .local\/sc.names.lookup x=some .cell
nonrec def d7j(env:Env)(h:Heap)(m:C!)(x:Str)(u:Value):Prop:=
 (env.kindOf x=some .local/\m x=some u)\/((env.kindOf x=some .cell\/env.kindOf x=some .free)/\∃c,env.cells.lookup x=some c/\h.IsCell c (some u))
structure Cx.Ok(X:Cx):Prop where
 mod:Mod X.K X.mg X.base
 kind:lG_=.function
 glob:X.env.globals=mainGlobals
 blt:X.env.builtins=builtinsNs
 above:dF_<=X.env.locals
 inj:∀x y c,X.env.cells.lookup x=some c->X.env.cells.lookup y=some c->x=y
 has:∀x,qT!->∃c,X.env.cells.lookup x=some c
 cab:∀x c,X.fn x=true->X.env.cells.lookup x=some c->dF_<=c
 hd:X.calm=true->X.A.handled=none
 frames:X.A.frames=some X.stack
 stk:X.stack=X.outer\/(X.stack=X.env::X.outer/\X.env.frame=some X.env.locals)
 exf:∀b∈X.ex,b≠X.env.locals/\∀x c,X.env.cells.lookup x=some c->c≠b
 bs:∀b o,X.base.get? b=some o->X.s₀.heap.get? b=some o/\X.H₀ b=none
 bsz:X.base.objs.size<=dF_
 noex:∀b o,X.base.get? b=some o->b∉X.ex
 exfs:∀b∈X.ex,b∉X.fs
 funs:X.s₀.heap.FunFrames X.base X.outer
 frf:∀b∈X.fs,X.H₀ b=none
structure Inv(X:Cx)(J:l_)(Z:List (Option V))(H:Hp)(s:Shared):Prop where
 ok:X.Ok
 os:s.os=X.s₀.os
 bare:AllBare s.gens
 base:Un X.fs X.ex X.H₀ H X.s₀.heap s.heap
 loc:∃m,s.heap.Ns X.env.locals m/\∀(i:Nat) (x:Str) (v:V),X.N[i]?=some x->Z[i]?=some dG!->Vis X.env.scope x->∃u,Dm v u/\d7j X.env s.heap m x u
 cell:∀x c,X.env.cells.lookup x=some c->∃v,s.heap.IsCell c v
 free:H X.env.locals=none
 freeC:∀x c,X.env.cells.lookup x=some c->H c=none
 pin:∀p∈X.pn++J,s.heap.get? p.1=some p.2/\H p.1=none/\p.1≠X.env.locals/\p.1∉X.fs/\∀v,p.2.data≠.cell v
 hok:cX X.prog X.w H s.heap
 len:fZ_=X.N.length
section
variable{X:Cx}{J:List (Addr×Obj)}{Z:List (Option V)}{H H':Hp}{s:Shared}{h':Heap}
def Cx.Ok.nofr(ok:X.Ok){b:Addr}{o:Obj}(e:X.base.get? b=some o):b∉X.fs:=λO=>by
 have:=(ok.funs.mem O).1;rw[e]at this;cases this
def Inv.bs(I:d!):∀b o,X.base.get? b=some o->s.heap.get? b=some o/\H b=none:=λb o e=>
 ⟨I.base.keep b o (h1!).1 (h1!).2 (I.ok.nofr e) qU_,I.base.free b o (h1!).1 (h1!).2 qU_⟩
def Inv.bk(I:d!):∀b o,X.base.get? b=some o->s.heap.get? b=some o:=λb o e=>(I.bs b o e).1
def Inv.mod(I:d!):Mod X.K X.mg X.base:=I.ok.mod
def Inv.kIn(I:d!):X.K.In s.heap:=I.ok.mod.kin.keeps I.bk
def Inv.lt(I:d!):X.env.locals<p!:=let⟨_,hn,_⟩:=I.loc;hn.lt
def Inv.sz(I:d!):dF_<=p!:=BN I.ok.above (FK I.lt)
def Inv.nofs(I:d!){a:Addr}(h:p!<=a):a∉X.fs:=λO=>by
 obtain⟨_,o,ho,_⟩:=I.ok.funs.mem O;exact absurd (BE h2! (BN I.sz h)) dF!
def Inv.cne(I:d!):∀x c,X.env.cells.lookup x=some c->c≠X.env.locals:=λx c e z=>by
 obtain⟨v,o,ho,hd⟩:=I.cell x c e;obtain⟨m,⟨o',es,ep,eh,xc,_⟩,_⟩:=I.loc;rw[z,eh]at ho;cases ho;rw[xc]at hd;cases hd
def Inv.funs(I:d!):s.heap.FunFrames X.base X.outer:=by
 have all:∀(l:as!),(∀b∈frs l,b∈X.fs)->X.s₀.heap.FunFrames X.base l->s.heap.FunFrames X.base l:=by
  intro l
  induction l with
  |nil=>intro _ _;trivial
  |cons env r ih=>
   intro hs hl;obtain⟨hk,⟨ay,o,hf,hn,ho,hd⟩,hr⟩:=hl;have hL:ay∈X.fs:=hs ay (by unfold frs;rw[JB,hf];exact AL);obtain⟨sl,e⟩:=I.base.slot ay o ho (I.ok.frf ay hL) hL λz=>I.ok.exfs ay z hL
   exact⟨hk,⟨ay,_,hf,hn,e,hd⟩,ih (λb O=>hs b (by unfold frs;rw[JB,hf];exact AD _ O)) hr⟩
 exact all X.outer (λ_ O=>O) I.ok.funs
def Inv.stack(I:d!):s.heap.FunFrames X.base X.stack:=by
 rcases I.ok.stk with e|⟨e,hf⟩
 .rw[e];exact I.funs
 .rw[e];obtain⟨m,hn,_⟩:=I.loc;refine .cons (by rw[I.ok.kind];decide) hf hn ?_ I.funs;exact Heap.get?_none_of_le (BN I.ok.bsz I.ok.above)
def Inv.stkSub(I:d!):∀b∈frs X.stack,b∈X.env.locals::X.fs:=λb O=>by
 rcases I.ok.stk with e|⟨e,hf⟩
 .rw[e]at O;exact AD _ O
 .rw[e]at O;unfold frs at O;rw[JB,hf]at O;exact O
def Inv.stkFree(I:d!):∀b∈frs X.stack,H b=none:=λb O=>by
 rcases AE.mp (I.stkSub b O)with e|O
 .rw[e];exact I.free
 .obtain⟨_,o,ho,_⟩:=I.ok.funs.mem O;exact I.base.free b o ho (I.ok.frf b O) λz=>I.ok.exfs b z O
def Inv.step{g':qW_}{t':Nat}{d':Drawn}{ch:ar_}(I:d!)
  (io:∀b∈ch,h2_/\b≠X.env.locals/\h3!/\∀p∈X.pn++J,p.1≠b)
  (keep:∀b o,b≠X.env.locals->b∉X.fs->b∉ch->s.heap.get? b=some o->H b=none->h'.get? b=some o)
  (slot:∀b o,b≠X.env.locals->b∈X.fs->b∉ch->s.heap.get? b=some o->H b=none->∃sl,h'.get? b=some {o with slots:=sl})(free:∀b o,b∉ch->s.heap.get? b=some o->H b=none->H' b=none)
  (there:∀b o,b∉ch->s.heap.get? b=some o->∃o',h'.get? b=some o')
  (tups:qH!)(frzs:∀b o u,H b=some fY_->H' b=some fY_)(tbls:∀b ps,H b=some (.tbl ps)->∃pe,H' b=some qO!)
  (ns:∀m,s.heap.Ns X.env.locals m->h'.Ns X.env.locals m)(hok:lI!)(hg:AllBare g'):
  Inv X J Z H' {s with heap:=h',gens:=g',drawn:=d',toks:=t'}:=by
 have LI:∀b o,X.s₀.heap.get? b=some o->b≠X.env.locals:=λb o e=>BV qX_;have vb:∀b o,X.s₀.heap.get? b=some o->b∉X.ex->b∉ch:=λb o e L O=>by
  rcases(io b O).1 with z|z
  .exact L z
  .exact absurd (BE cW! z) dF!
 have LJ:∀x c,X.env.cells.lookup x=some c->∀v,s.heap.IsCell c v->h'.IsCell c v:=λx c e v ⟨o,ho,hd⟩=>by
  have qz:c∉ch:=λz=>(io c z).2.2.1 x c e rfl;by_cases hc:c∈X.fs
  .obtain⟨sl,q⟩:=slot c o (I.cne x c e) hc qz ho lI_;exact⟨_,q,hd⟩
  .exact⟨o,keep c o (I.cne x c e) hc qz ho lI_,hd⟩
 refine⟨I.ok,I.os,hg,⟨h3_,h3_,λb o e n L=>?_,qY_,λb xs e=>tups b xs (I.base.tups b xs e),λb o xs e=>frzs b o xs (I.base.frzs b o xs e),λb ps e=>?_⟩,?_,lJ_,?_,lJ_,cr_,hok,I.len⟩
 .exact keep b o (LI b o e) O h4! lK! lK_
 .show"!_";obtain⟨QK,e2⟩:=slot b _ (LI b o e) O h4! e1 lK_;exact⟨QK,e2⟩
 .show"!F";exact free b o' h4! e1 lK_
 .show"!F";exact there b o' h4! e1
 .obtain⟨m1,e1⟩:=I.base.tbls b ps e;obtain⟨m2,e2⟩:=tbls b _ e1;exact⟨m1++m2,by rw[e2,Array.append_assoc]⟩
 .obtain⟨m,hn,hl⟩:=I.loc;refine⟨m,ns m hn,qZ_⟩;obtain⟨u,r,l⟩:=hl i x v e1 e2 e3;refine⟨u,r,?_⟩;rcases l with l|⟨k,c,e,z⟩
  .exact .inl l
  .exact .inr ⟨k,c,e,LJ x c e _ z⟩
 .obtain⟨v,z⟩:=I.cell x c e;exact⟨v,LJ x c e v z⟩
 .obtain⟨m,⟨o,_,_,ho,_⟩,_⟩:=I.loc;exact free _ o (λz=>(io _ z).2.1 rfl) ho I.free
 .obtain⟨v,o,ho,hd⟩:=I.cell x c e;exact free c o (λz=>(io c z).2.2.1 x c e rfl) ho lI_
 .show"#!";have qz:p.1∉ch:=λz=>(io p.1 z).2.2.2 p hp rfl;exact⟨keep p.1 p.2 ne nf qz e n,free p.1 p.2 qz e n,ne,nf,d⟩
def Inv.un{t':Nat}(I:d!)(u:Un X.fs [] H H' s.heap h')(hok:lI!):Inv X J Z H' {s with heap:=h',toks:=t'}:=by
 obtain⟨m,⟨o,es,ep,ho,r⟩,_⟩:=id I.loc;obtain⟨sl,hL⟩:=u.any ho I.free c_;exact I.step (g':=s.gens) (d':=s.drawn) (ch:=[]) q1_ (λb o _ O _ e n=>u.keep b o e n O c_) (λb o _ O _ e n=>u.slot b o e n O c_) (λb o _ e n=>u.free b o e n c_) (λb o _ e=>u.there b o e c_) u.tups u.frzs u.tbls (λm' hm=>by
  obtain⟨o',au,bd,eh,r'⟩:=hm;rw[ho]at eh;cases eh;exact q2_) hok I.bare
def Inv.call{g':qW_}{t':Nat}{d':Drawn}{ch:ar_}(I:d!)(u:Un (frs X.stack) ch H H' s.heap h')(hok:lI!)(hg:AllBare g')
  (io:∀b∈ch,h2_/\b≠X.env.locals/\h3!/\∀p∈X.pn++J,p.1≠b):
  Inv X J Z H' {s with heap:=h',gens:=g',drawn:=d',toks:=t'}:=by
 obtain⟨m,⟨o,es,ep,ho,r⟩,_⟩:=id I.loc;obtain⟨sl,hL⟩:=u.any ho I.free λz=>(io _ z).2.1 rfl
 exact I.step (ch:=ch) io (λb o hL O hc e n=>u.keep b o e n (λz=>(AE.mp (I.stkSub b z)).elim hL O) hc) (λb o _ _ hc e n=>u.any e n hc) (λb o hc e n=>u.free b o e n hc) (λb o hc e=>u.there b o e hc) u.tups u.frzs u.tbls (λm' hm=>by
  obtain⟨o',au,bd,eh,r'⟩:=hm;rw[ho]at eh;cases eh;exact q2_) hok hg
def Inv.turned{t':Nat}(I:d!)(k:∀b o,b≠it->s.heap.get? b=some o->h'.get? b=some o)(hn:H it=none)(hL:it≠X.env.locals)
  (B:it∈X.ex\/dF_<=it)(Y:∀x c,X.env.cells.lookup x=some c->c≠it)(h3:∀p∈X.pn++J,p.1≠it):Inv X J Z H {s with heap:=h',toks:=t'}:=by
 have pf:∀b u,H b=some u->b≠it:=λb u e z=>by rw[z,hn]at e;cases e
 refine I.step (g':=s.gens) (d':=s.drawn) (ch:=[it]) lL_ (λb o _ _ hc e _=>k b o h5! e) (λb o _ _ hc e _=>⟨o.slots,k b o h5! e⟩) h5_
  (λb o hc e=>⟨o,k b o h5! e⟩) h6! h6_ (λb ps e=>q8!) h7! q8_ I.bare
 .have e:b=it:=by simpa using O
  subst e;exact⟨B,hL,Y,h3⟩
 .obtain⟨o,es,ep,ho,r⟩:=hm;exact⟨o,es,ep,k _ o (AK hL) ho,r⟩
 .refine(I.hok b u e).stay (λc v hc q=>k c v ?_ q) lB! λ_ _ q=>q;rcases hc with z|z
  .rw[z];exact pf b u e
  .exact pf c _ z
def Inv.tok(I:d!)(t:Nat):Inv X J Z H {s with toks:=t}:=I.un (h':=s.heap) (t':=t) Un.refl I.hok
def Inv.kept{t':Nat}(I:d!)(k:q9_):Inv X J Z H {s with heap:=h',toks:=t'}:=I.un (Un.kept k) (I.hok.kept k)
def Inv.laid{a:Addr}{o:HO}{t':Nat}(I:d!)(k:q9_)(hp:p!<=a)(new:Jz X.prog X.w cV! h' a o):
  Inv X J Z cV! {s with heap:=h',toks:=t'}:=I.un (Un.laid k hp (I.hok.fresh hp)) (I.hok.laid k hp new)
def Inv.write{x e:Addr}{o:HO}{t':Nat}(I:d!)(mu:lC_)(he:lB_)(k:∀b u,b≠e->s.heap.get? b=some u->h'.get? b=some u)(pb:lC!)
  (new:Jz X.prog X.w lD_ h' x o):Inv X J Z lD_ {s with heap:=h',toks:=t'}:=I.un (Un.write mu he k pb) (I.hok.write mu he k pb new)
def Inv.pins_of{LK:l_}(I:d!)(h:∀p∈LK,s.heap.get? p.1=some p.2/\H p.1=none/\p.1≠X.env.locals/\p.1∉X.fs/\∀v,p.2.data≠.cell v):Inv X LK Z H s:=
 ⟨I.ok,I.os,I.bare,I.base,I.loc,I.cell,I.free,I.freeC,λp hp=>(AR.mp hp).elim (λz=>I.pin p h7_) (h p),I.hok,I.len⟩
def zU{N:k!}(hN:N.Nodup){i j:Nat}{x:Str}(a:N[i]?=some x)(b:N[j]?=some x):i=j:=by obtain⟨B,e1⟩:=BA.mp a;obtain⟨Y,e2⟩:=BA.mp b;exact(List.getElem_inj hN).mp ra_
def qF{M:Model}{A:Around}{E:p_}{i:Nat}{x:Str}{v:V}{u:Value}{Q:cW_}(I:d!)(hN:bt!)(hi:ai_)(L:bt_)(r:bu!)
  (h:∀s',Inv X J ey_ H s'->(∃a,Heap.SameBut a s.heap s'.heap/\(a=X.env.locals\/X.env.cells.lookup x=some a))->Q () s')(hf:X.fn x=true\/X.env.scope.names.lookup x=some .local:=by first|exact .inl rfl|exact .inr rfl|assumption):wpAny M A rb_ Q E s:=by
 obtain⟨m,hn,hl⟩:=id I.loc;have QL:(lG_==.class||(lG_==.module&&X.env.locals != X.env.globals))=false:=by rw[I.ok.kind];rfl
 have LL:i<fZ_:=by rw[I.len];exact(BA.mp hi).1
 have cne:=I.cne;have LM:∀{a:Addr} {h':Heap},(∃o,s.heap.get? a=some o/\H a=none)->Heap.SameBut a s.heap h'->cX X.prog X.w H h':=λ{a h'} ha hs b ob e=>by
  obtain⟨_,_,ic⟩:=ha;refine(I.hok b ob e).stay (λc w' hc q=>(hs.2 c ?_).trans q) lB! λ_ _ q=>q;rintro rfl;rcases hc with rfl|hc
  .rw[ic]at e;cases e
  .rw[ic]at hc;cases hc
 rcases L with hk|hk
 .refine wpAny_storeName_local hk hn (λh' vc hs=>?_) QL;obtain⟨oL,_,_,la,_⟩:=id hn;refine h _ ⟨I.ok,I.os,I.bare,rc!,⟨_,vc,rc_⟩,λy c e=>?_,I.free,I.freeC,cr_,LM ⟨oL,la,I.free⟩ hs,rd_⟩ ⟨_,hs,cX!⟩
  .exact(lN!).trans lK!
  .show"!_";exact⟨sl,(lN!).trans e1⟩
  .show"!F";exact⟨o',(lN!).trans e1⟩
  .by_cases hj:j=i
   .show"#1";exact⟨u,r,.inl ⟨hk,J!⟩⟩
   .rw[BR (AK hj)]at e2;obtain⟨u',r',q⟩:=hl j y v' e1 e2 e3;refine re_;rcases q with⟨k,e⟩|⟨k,c,e,z⟩
    .refine .inl ⟨k,?_⟩;have:y≠x:=λe=>hj (zU hN e1 (e▸hi));simp[this,e]
    .exact .inr ⟨k,c,e,rf_⟩
  .obtain⟨w',z⟩:=I.cell y c e;exact⟨w',rf_⟩
  .show"#!";exact⟨(hs.2 p.1 ne).trans e,n,ne,nf,d⟩
 .have xf:X.fn x=true:=by
   rcases hf with z|z
   .exact z
   .rw[z]at hk;cases hk
  obtain⟨c,hc⟩:=I.ok.has x (.inl hk);obtain⟨w',z⟩:=I.cell x c hc;refine wpAny_storeName_cell I.ok.kind hk hc z (λh' a8 hs=>?_);obtain⟨oc,LN,QM⟩:=id z;refine h {s with heap:=h'} ⟨I.ok,I.os,I.bare,rc!,⟨m,hn.sameBut hs (AK (cne x c hc)),rc_⟩,λy c' e=>?_,I.free,I.freeC,cr_,LM ⟨oc,LN,I.freeC x c hc⟩ hs,rd_⟩ ⟨c,hs,.inr hc⟩
  .exact(lN_).trans lK!
  .show"!_";exact⟨sl,(lN_).trans e1⟩
  .show"!F";exact⟨o',(lN_).trans e1⟩
  .by_cases hj:j=i
   .show"#1";exact⟨u,r,.inr ⟨.inl hk,c,hc,a8⟩⟩
   .rw[BR (AK hj)]at e2;obtain⟨u',r',q⟩:=hl j y v' e1 e2 e3;refine re_;rcases q with q|⟨k,c',e,z'⟩
    .exact .inl q
    .refine .inr ⟨k,c',e,z'.sameBut hs ?_⟩;rintro rfl;exact hj (zU hN e1 (I.ok.inj _ _ _ e hc▸hi))
  .by_cases jz:c'=c
   .subst jz;exact⟨_,a8⟩
   .obtain⟨w2,z2⟩:=I.cell y c' e;exact⟨w2,z2.sameBut hs jz⟩
  .show"#!";refine⟨(hs.2 p.1 ?_).trans e,n,ne,nf,d⟩;intro q;rw[q,LN]at e;have q':oc=p.2:=BZ e;exact d w' (by rw[<-q'];exact QM)
def jS{M:Model}{A:Around}{E:p_}{i:Nat}{x:Str}{v:V}{u:Value}{Q:cW_}(I:d!)(hN:bt!)(hi:ai_)(L:bt_)(r:bu!)
  (h:∀s',Inv X J ey_ H s'->Q () s')(hf:X.fn x=true\/X.env.scope.names.lookup x=some .local:=by first|exact .inl rfl|exact .inr rfl|assumption):wpAny M A rb_ Q E s:=
 qF I hN hi L r (λs' I' _=>h s' I') hf
def Inv.call'{s':Shared}{ch:ar_}(I:d!)(ho:s'.os=s.os)(u:Un (frs X.stack) ch H H' s.heap s'.heap)(hok:cX X.prog X.w H' s'.heap)(hg:AllBare s'.gens)
  (io:∀b∈ch,h2_/\b≠X.env.locals/\h3!/\∀p∈X.pn++J,p.1≠b):Inv X J Z H' s':=by
 obtain⟨h',g',d',t',o'⟩:=s';have e:o'=s.os:=ho;subst e;exact I.call (g':=g') (t':=t') (d':=d') u hok hg io
end
abbrev XK:=Value->Option Addr->Hp->Prop
abbrev St:=List (Option V)
abbrev VK:=V->Hp->Prop
abbrev TE:=St->Hp->VK->Prop
abbrev TT:=St->Hp->rh!->Prop
abbrev TA:=St->Hp->(List V->Hp->Prop)->Prop
structure a6a where
 nx:St->Hp->Prop
 rt:VK
 bk:St->Hp->Prop:=λ_ _=>False
 ct:St->Hp->Prop:=λ_ _=>False
abbrev TS:=a6a->St->Hp->Prop
inductive EP(X:Cx)(J:l_)(Z:St)(Q:VK)(u:Value)(s':Shared):Prop
 |mk (v:V) (H':Hp) (I:lO!) (r:bu!) (q:Q v H'):EP X J Z Q u s'
inductive TP(X:Cx)(J:l_)(Z:St)(Q:dH!)(b:Bool)(s':Shared):Prop
 |mk (H':Hp) (I:lO!) (q:Q b H'):TP X J Z Q b s'
inductive AP(X:Cx)(J:l_)(Z:St)(Q:cX_)(us:h_)(s':Shared):Prop
 |mk (vs:k_) (H':Hp) (I:lO!) (r:eB!) (q:Q vs H'):AP X J Z Q us s'
nonrec def SP(X:Cx)(J:l_)(D:a6a)(f:Flow)(s':Shared):Prop:=
 match f with
 |.next=>∃hx H',Inv X J hx H' s'/\D.nx hx H'
 |.brk=>∃hx H',Inv X J hx H' s'/\D.bk hx H'
 |.cont=>∃hx H',Inv X J hx H' s'/\D.ct hx H'
 |.ret u=>∃v hx H',Inv X J hx H' s'/\Dm v u/\D.rt v H'
nonrec def PE(X:Cx)(e:Expr)(t:TE):Prop:=
 ∀(J:l_) (s:Shared) (Z:St) (H:Hp) (Q:VK),Inv X J Z H s->t Z H Q->wpAny e_ X.A eA_ aJ_ X.xe s
nonrec def PT(X:Cx)(e:Expr)(t:TT):Prop:=
 ∀(J:l_) (s:Shared) (Z:St) (H:Hp) (Q:dH!),Inv X J Z H s->t Z H Q->wpAny e_ X.A (isTrue e X.env eA_) h9_ X.xe s
nonrec def PW(X:Cx)(e:Expr)(t:TT):Prop:=
 ∀(dq:Sem Value) (J:l_) (s:Shared) (Z:St) (H:Hp) (Q:dH!),Inv X J Z H s->t Z H Q->wpAny e_ X.A (isTrue e X.env dq) h9_ X.xe s
def PW.pt{X:Cx}{e:Expr}{t:TT}(h:PW X e t):PT X e t:=h _
nonrec def PA(X:Cx)(es:bu_)(t:TA):Prop:=
 ∀(pos:Pos) (J:l_) (s:Shared) (Z:St) (H:Hp) (Q:cX_),Inv X J Z H s->t Z H Q->wpAny e_ X.A (spliced vp!) (AP X J Z Q) X.xe s
nonrec def PS(X:Cx)(st:Stmt)(t:TS):Prop:=
 ∀(J:l_) (s:Shared) (Z:St) (H:Hp) (D:a6a),Inv X J Z H s->t D Z H->wpAny e_ X.A (exec st X.env) (SP X J D) X.xe s
nonrec def PSs(X:Cx)(st:bH!)(t:TS):Prop:=
 ∀(J:l_) (s:Shared) (Z:St) (H:Hp) (D:a6a),Inv X J Z H s->t D Z H->wpAny e_ X.A (execs st X.env) (SP X J D) X.xe s
def Gn{α:Type}{t:Sem α}{Q Q':rj_}{M:Model}{A:Around}{E:p_}{s:Shared}(h:wpAny M A t Q E s)(hQ:∀a s,Q a s->Q' a s):wpAny M A t Q' E s:=DF h hQ λ_ _ x=>x
end L2
namespace L2
open PySem PySem.Spec PyProof.Rows
section
variable{X:Cx}
def bin{a b:Expr}{ta tb:TE}(ha:a0!)(O:ct!){J:l_}{s:Shared}{Z:St}{H:Hp}{R:vx!}(I:d!)(h:rj!)
  {α:Type}{Q:rj_}{f:Value->Value->Sem α}
  (hf:rk!):
  wpAny e_ X.A lR_ rl! X.xe s:=by
 show"!9"
nonrec def d5l(i:Nat):TE:=λZ H Q=>∃v,Z[i]?=some dG!/\Q v H
nonrec def tC(v:V):TE:=λ_ H Q=>Q v H
def Zk{i:Nat}{x:Str}{pos:Pos}(hN:ai_)(hv:cY_)(hd:F_:=by decide)(bv:cZ!:=by decide):PE X cZ_ (d5l i):=by
 intro J s Z H Q I h;obtain⟨v,e,h⟩:=h;obtain⟨m,hn,hl⟩:=I.loc;obtain⟨u,r,l⟩:=hl i x v hN e hv;have fin:EP X J Z Q u s:=lS_;rcases l with⟨hk,hm⟩|⟨hk,c,hc,b9⟩
 .exact wpAny_Name (wpAny_loadName_local I.ok.kind hk hn hm fin) hd
 .rcases hk with hk|hk
  .exact wpAny_Name (wpAny_loadName_cell I.ok.kind hk hc b9 fin) hd
  .exact wpAny_Name (wpAny_loadName_free I.ok.kind hk hc b9 fin bv) hd
def c6n {i j pos}:PE X ro! (tC bd_):=λ_ _ _ H _ I h=>wpAny_Constant_int ⟨be!,H,a0_,J_,h⟩
def d1y {b j pos}:PE X (.Constant lT! j pos) (tC bH_):=λ_ _ _ H _ I h=>Constant_bool ⟨.bl b,H,I,rfl,h⟩
def c6m {j pos}:PE X rp_ (tC .non):=λ_ _ _ H _ I h=>Constant_none ⟨.non,H,I,rfl,h⟩
def b4u {x j pos}:PE X (.Constant dI! j pos) (tC dI!):=λ_ _ _ H _ I h=>HZ ⟨.str x,H,a0_,J_,h⟩
nonrec def Gl(X:Cx)(x:Str):Prop:=X.env.kindOf x=some .globalImplicit
def Te{E:p_}{J:l_}{s:Shared}{Z:St}{H:Hp}{x:Str}{u:Value}{pos:Pos}{Q:p_}(I:d!)(hg:R_)(hm:X.mg x=some u)(h:Q u s)
  (hd:F_:=by decide):wpAny e_ X.A vK! Q E s:=
 Calls.Name_function_global I.ok.kind hg (Calls.loadGlobal_global rr! hm h) hd
def Rc{E:p_}{J:l_}{s:Shared}{Z:St}{H:Hp}{x:Str}{u:Value}{pos:Pos}{Q:p_}(I:d!)(hg:R_)(hm:ct_)(hv:rr_)(h:Q u s)
  (hn:cu!:=by decide)(hd:F_:=by decide):wpAny e_ X.A vK! Q E s:=by
 obtain⟨mb,B,Y⟩:=I.mod.blt;exact Calls.Name_function_global I.ok.kind hg (Calls.loadGlobal_builtin rr! hm (by rw[I.ok.blt];exact B.keeps I.bk) ((Y x hn).trans hv) h) hd
def c0z{x:Str}{v:V}{u:Value}{pos:Pos}(hg:R_)(hm:X.mg x=some u)(r:bu!)(hd:F_:=by decide):PE X cZ_ (tC v):=
 λ_ _ _ H _ I h=>Te I hg hm lS_ hd
def c1a{x:Str}{v:V}{u:Value}{pos:Pos}(hg:R_)(hm:ct_)(hv:rr_)(r:bu!)(hn:cu!:=by decide)(hd:F_:=by decide):PE X cZ_ (tC v):=
 λ_ _ _ H _ I h=>Rc I hg hm hv lS_ hn hd
variable{a b:Expr}{ta tb:TE}{pos:Pos}
nonrec def PC(X:Cx)(op:CmpOp)(a b:Expr)(t:TE):Prop:=
 ∀(J:l_) (s:Shared) (Z:St) (H:Hp) (Q:VK),Inv X J Z H s->t Z H Q->
  wpAny e_ X.A lR_ (λv aj=>wpAny e_ X.A vz! (λu al=>wpAny e_ X.A (compareOp op v u) aJ_ X.xe al) X.xe aj) X.xe s
def b5o(b:Expr){op:CmpOp}(h:op≠.In)(Y:op≠.NotIn):behindInMarks op b=false:=by
 have e1:rv_=false:=by cases op<;>first|rfl|exact absurd rfl h
 have e2:rv!=false:=by cases op<;>first|rfl|exact absurd rfl Y
 cases b<;>simp[behindInMarks,e1,e2]
nonrec def tB(t:TE):TT:=λZ H Q=>t Z H λx H1=>∃c,x=.bl c/\Q c H1
def d6g{op:CmpOp}{t:TE}(h:PC X op a b t)(B:dI_:=by first|exact b5o _ c! c!|rfl):PT X dJ! (tB t):=by intro J s Z H Q I hw;refine JE (Gn lW! λv s1 B=>Gn B λu s2 Y=>Gn Y λc s3 ⟨x,H1,I1,r1,q1⟩=>?_) B;obtain⟨d,rfl,q⟩:=q1;cases r1;exact CA ⟨H1,I1,q⟩
def b4g{e:Expr}{t:TE}(h:ic_)(he:id!:=by intro _;rfl):PT X e (tB t):=by intro J s Z H Q I hw;refine isTrue_plain (Gn lW! λv s1 ⟨x,H1,I1,r1,q1⟩=>?_) (he _);obtain⟨d,rfl,q⟩:=q1;cases r1;exact CA ⟨H1,I1,q⟩
variable{tA vd:TT}{rest:List Expr}
nonrec def d5x(t u:TT):TT:=λZ H Q=>t Z H λc H1=>if c=true then u Z H1 Q else Q false H1
nonrec def tOr(t u:TT):TT:=λZ H Q=>t Z H λc H1=>if c=true then Q true H1 else u Z H1 Q
nonrec def d5q(t:TT):TT:=λZ H Q=>t Z H λc H1=>Q (!c) H1
def a7b(ha:f8_):PW X lX_ tA:=by
 intro wh J s Z H Q I h;refine isTrue_and ry_;cases c with
 |true=>exact isTrue_and_nil e
 |false=>exact e
def b3z(ha:f8_):PW X lY! tA:=by
 intro wh J s Z H Q I h;refine isTrue_or ry_;cases c with
 |false=>exact isTrue_or_nil e
 |true=>exact e
def b4a(ha:f8_)(O:PW X eB_ vd):PW X eC! (d5x tA vd):=by
 intro wh J s Z H Q I h;refine isTrue_and rz!;cases c with
 |true=>exact O wh J s1 Z H1 Q I1 q1
 |false=>exact rA!
def c4j(ha:f8_)(O:PW X eC_ vd):PW X eD! (tOr tA vd):=by
 intro wh J s Z H Q I h;refine isTrue_or rz!;cases c with
 |true=>exact rA!
 |false=>exact O wh J s1 Z H1 Q I1 q1
def b4i(ha:f8_):PT X eD_ (d5q tA):=by intro J s Z H Q I h;exact isTrue_not (Gn (ha J s Z H (λc H1=>Q (!c) H1) I h) λ_ _ ⟨H2,I2,q⟩=>⟨H2,I2,q⟩)
nonrec def d0z(ta tb:TE):TE:=λZ H Q=>ta Z H λx H1=>∃c,x=.bl c/\if c=true then tb Z H1 Q else Q au_ H1
nonrec def d5p(ta tb:TE):TE:=λZ H Q=>ta Z H λx H1=>∃c,x=.bl c/\if c=true then Q E! H1 else tb Z H1 Q
nonrec def d0u(ta:TE):TE:=λZ H Q=>ta Z H λx H1=>∃c,x=.bl c/\Q (.bl (!c)) H1
def b4v {op}{t:TE}(h:PE X a t):PE X l0_ t:=λJ s Z H Q I hw=>BoolOp_one rB!
def b5b(ha:a0!)(O:PE X eB_ tb):PE X eC! (d0z ta tb):=by
 intro J s Z H Q I h;refine BoolOp_and l1!;obtain⟨c,rfl,q1⟩:=q1;cases r1;refine CA ?_;cases c with
 |true=>exact O J s1 Z H1 Q I1 q1
 |false=>exact⟨.bl false,H1,I1,rfl,q1⟩
def c4m(ha:a0!)(O:PE X eC_ tb):PE X eD! (d5p ta tb):=by
 intro J s Z H Q I h;refine BoolOp_or l1!;obtain⟨c,rfl,q1⟩:=q1;cases r1;refine CA ?_;cases c with
 |false=>exact O J s1 Z H1 Q I1 q1
 |true=>exact⟨if_,H1,I1,rfl,q1⟩
def b4w(ha:a0!):PE X eD_ (d0u ta):=by intro J s Z H Q I h;refine UnaryOp_ l1!;obtain⟨c,rfl,q1⟩:=q1;cases r1;exact not_of (CA ⟨.bl (!c),H1,I1,rfl,q1⟩)
nonrec def tIf(t:TT)(ta tb:TE):TE:=λZ H Q=>t Z H λc H1=>if c=true then ta Z H1 Q else tb Z H1 Q
def zK{c:Expr}(hc:PT X c tA)(ha:a0!)(O:ct!):PE X l2! (tIf tA ta tb):=by
 intro J s Z H Q I h;refine wpAny_IfExp rF!;cases d with
 |true=>exact ha J s1 Z H1 Q I1 q1
 |false=>exact O J s1 Z H1 Q I1 q1
end
end L2
namespace L2
open PySem PySem.Spec PyProof.Rows
nonrec def Jf(K:W.Frag)(H:Hp)(a:Addr)(xs:k_):Prop:=
 Rd H a I!\/
  ∃(o:Obj) (its:ab!) (n:Nat),K.lookup a=some o/\o.cls=.type "list"/\o.dict=none/\o.data=.seq its n/\its.size<=sizeLine/\Ce xs ig!
nonrec def Lj(K:W.Frag)(H:Hp)(a:Addr)(xs:k_):Prop:=
 Rd H a bc_\/
  ∃(o:Obj) (its:ab!) (n:Nat),K.lookup a=some o/\o.cls=.type "tuple"/\o.data=.seq its n/\its.size<=sizeLine/\Ce xs ig!
nonrec def d7f:Value->Option V
 |.none=>some .non
 |.bool b=>some bH_
 |.int i _=>some bd_
 |.str x _=>some dI!
 |.bytes b _=>some (.byt b)
 |.float b _=>some (.flt b)
 |.ref a=>some ab_
 |.type n=>some (.ty n)
 |_=>none
def Dm.abs{x:V}{u:Value}(r:Dm x u):d7f u=some x:=by
 cases x with
 |non=>cases r;rfl
 |bl _=>cases r;rfl
 |int _=>obtain⟨t,rfl⟩:=r;rfl
 |str _=>obtain⟨t,rfl⟩:=r;rfl
 |byt _=>obtain⟨t,rfl⟩:=r;rfl
 |flt _=>obtain⟨t,rfl⟩:=r;rfl
 |ref _=>cases r;rfl
 |ty _=>cases r;rfl
def Dm.inj{x y:V}{u:Value}(r:Dm x u)(q:Dm y u):x=y:=BZ (r.abs.symm.trans q.abs)
def Ce.inj:∀{xs ys:k_} {us:h_},Ce xs us->Ce ys us->xs=ys
 |_,_,_,.nil,.nil=>rfl
 |_,_,_,.cons r t,.cons r' t'=>by rw[r.inj r',Ce.inj t t']
section
variable{X:Cx}{J:List (Addr×Obj)}{Z:St}{H:Hp}{s:Shared}{a:Addr}{xs ys:List V}
def Jf.of{K:W.Frag}(h:H a=some I!):Jf K H a xs:=.inl ih!
def Lj.of{K:W.Frag}(h:H a=some bc_):Lj K H a xs:=.inl ih!
def Inv.list(I:d!)(h:Jf X.K H a xs):∃its:List Value,Ce xs its/\PlainL s.heap a aQ_/\i_<=sizeLine:=by
 rcases h with h|⟨o,its,n,hk,hc,hd,hs,hz,r⟩
 .obtain⟨z,its,n,r,e⟩:=h.ok I.hok;exact⟨its,r,⟨_,n,e,rfl,rfl,rfl⟩,z⟩
 .refine⟨ig!,r,⟨o,n,I.kIn a o hk,hc,hd,rJ!⟩,?_⟩;have e:=aC!;simp only[CK]at e;omega
def Inv.tuple(I:d!)(h:Lj X.K H a xs):∃its:List Value,Ce xs its/\IsTup s.heap a aQ_/\i_<=sizeLine:=by
 rcases h with h|⟨o,its,n,hk,hc,hs,hz,r⟩
 .obtain⟨z,its,r,p⟩:=h.ok I.hok;exact⟨its,r,p,z⟩
 .refine⟨ig!,r,⟨o,I.kIn a o hk,hc,n,rJ!⟩,?_⟩;have e:=aC!;simp only[CK]at e;omega
def Inv.list_inj(I:d!)(h:Jf X.K H a xs)(h':Jf X.K H a ys):xs=ys:=by
 obtain⟨its,r,⟨o,n,e,_,_,d⟩,_⟩:=I.list h;obtain⟨its',r',⟨o',n',e',_,_,d'⟩,_⟩:=I.list h';rw[e]at e';cases e';rw[d]at d';injection d' with d1 _
 have:its=its':=by simpa using congrArg Array.toList d1
 subst this;exact r.inj r'
def Inv.tuple_inj(I:d!)(h:Lj X.K H a xs)(h':Lj X.K H a ys):xs=ys:=by
 obtain⟨its,r,⟨o,e,_,n,d⟩,_⟩:=I.tuple h;obtain⟨its',r',⟨o',e',_,n',d'⟩,_⟩:=I.tuple h';rw[e]at e';cases e';rw[d]at d';injection d' with d1 _
 have:its=its':=by simpa using congrArg Array.toList d1
 subst this;exact r.inj r'
end
abbrev Cx.wish(X:Cx)(E:p_):Cx:={X with xe:=E}
abbrev Cx.nox(X:Cx):Cx:=X.wish λ_ _=>False
def Cx.Ok.wish{X:Cx}(ok:X.Ok)(E:p_):(ga!).Ok:=
 rK!
def Cx.Ok.unwish{X:Cx}{E:p_}(ok:(ga!).Ok):X.Ok:=
 rK!
section
variable{X:Cx}{J:List (Addr×Obj)}{Z:St}{H:Hp}{s:Shared}{E:Value->Shared->Prop}
def Inv.wish(I:d!)(E:p_):Inv ga! J Z H s:=⟨I.ok.wish E,I.os,I.bare,I.base,I.loc,I.cell,I.free,I.freeC,I.pin,I.hok,I.len⟩
def Inv.unwish(I:Inv ga! J Z H s):Inv X J Z H s:=⟨I.ok.unwish,I.os,I.bare,I.base,I.loc,I.cell,I.free,I.freeC,I.pin,I.hok,I.len⟩
def SP.unwish{D:a6a}{f:Flow}{s':Shared}(h:SP ga! J D f s'):SP X J D f s':=by
 cases f with
 |next=>obtain⟨hx,H',I,q⟩:=h;exact l7!
 |brk=>obtain⟨hx,H',I,q⟩:=h;exact l7!
 |cont=>obtain⟨hx,H',I,q⟩:=h;exact l7!
 |ret u=>obtain⟨v,hx,H',I,r,q⟩:=h;exact⟨v,hx,H',I.unwish,r,q⟩
def PSs.nox{st:bH!}{t:TS}(h:PSs X.nox st t):PSs X st t:=λJ s Z H D I hw=>
 DF (h J s Z H D (I.wish _) hw) (λ_ _ q=>q.unwish) λ_ _ z=>False.elim z
end
section
variable{X:Cx}{st:Stmt}{rest:List Stmt}{t u:TS}{e:Expr}{te:TE}{pos:Pos}
nonrec def d0v:TS:=λD Z H=>D.nx Z H
nonrec def d5n(t u:TS):TS:=λD Z H=>t {D with nx:=u D} Z H
def a7f:PSs X [] d0v:=λ_ _ Z H _ I h=>JG ⟨Z,H,I,h⟩
def zG(B:ih_)(Y:PSs X rest u):PSs X l8! (d5n t u):=by
 intro J s Z H D I h;refine wpAny_execs_cons (Gn (B J s Z H {D with nx:=u D} I h) λf s1 q=>?_);cases f with
 |next=>
  obtain⟨hx,H',I',q⟩:=q;exact Y J s1 hx H' D I' q
 |ret v=>exact q
 |brk=>exact q
 |cont=>exact q
def a7e(B:ih_):PSs X [st] t:=by
 intro J s Z H D I h;refine wpAny_execs_cons (Gn (B J s Z H D I h) λf s1 q=>?_);cases f with
 |next=>exact JG q
 |ret v=>exact q
 |brk=>exact q
 |cont=>exact q
def Inv.quiet{J:l_}{Z:St}{H:Hp}{s:Shared}(I:d!):interactive X.env=false:=by simp[interactive,I.ok.kind]
nonrec def d0w(te:TE):TS:=λD Z H=>te Z H λ_ H1=>D.nx Z H1
def iT(he:cv!)(hs:rL!:=by rfl):PS X (.Expr e pos) (d0w te):=by intro J s Z H D I h;exact wpAny_Expr_any (Gn c2! λv s1 ⟨x,H1,I1,r1,q1⟩=>⟨Z,H1,I1,q1⟩) I.quiet hs
nonrec def d5o(te:TE):TS:=λD Z H=>te Z H D.rt
def b4l(he:cv!):PS X l8_ (d5o te):=by intro J s Z H D I h;exact wpAny_Return_some (Gn c2! λv s1 ⟨x,H1,I1,r1,q1⟩=>⟨x,Z,H1,I1,r1,q1⟩)
nonrec def d0s:TS:=λD _ H=>D.rt .non H
def c0r:PS X rM! d0s:=λ_ _ Z H _ I h=>wpAny_Return_none ⟨.non,Z,H,I,rfl,h⟩
nonrec def d5s(c:TT)(t u:TS):TS:=λD Z H=>c Z H λb H1=>if b=true then t D Z H1 else u D Z H1
def c4l{c:Expr}{a b:bH!}{tc:TT}(hc:PT X c tc)(ha:PSs X a t)(O:PSs X b u):PS X (.If c a b pos) (d5s tc t u):=by
 intro J s Z H D I h;refine wpAny_If rF!;cases d with
 |true=>exact ha J s1 Z H1 D I1 q1
 |false=>exact O J s1 Z H1 D I1 q1
end
abbrev TG:=V->St->Hp->rN!->Prop
abbrev TGs:=List V->St->Hp->rN!->Prop
nonrec def PG(X:Cx)(q8:Expr)(t:TG):Prop:=
 ∀(J:l_) (s:Shared) (Z:St) (H:Hp) (v:V) (u:Value) (Q:ij_),Inv X J Z H s->Dm v u->t v Z H Q->
  wpAny e_ X.A (assign q8 X.env u) rN_ X.xe s
nonrec def PGs(X:Cx)(ts:bu_)(t:TGs):Prop:=
 ∀(J:l_) (s:Shared) (Z:St) (H:Hp) (vs:k_) (us:h_) (Q:ij_),Inv X J Z H s->Ce vs us->t vs Z H Q->
  wpAny e_ X.A (assignInOrder ((assignEach ts X.env).map A_) us) rN_ X.xe s
abbrev c3o:=V->V->V->Hp->l9!->Prop
nonrec def b1w(X:Cx)(t:c3o):Prop:=
 ∀(J:l_) (s:Shared) (Z:St) (H:Hp) (o i v:V) (ov iv u:Value) (Q:Hp->Prop),Inv X J Z H s->Dm o ov->Dm i iv->Dm v u->t o i v H Q->
  wpAny e_ X.A (setItem ov iv u) (λ_ s'=>∃H',Inv X J Z H' s'/\Q H') X.xe s
abbrev TIp:=V->V->Hp->VK->Prop
nonrec def PIp(X:Cx)(op:Operator)(t:TIp):Prop:=
 ∀(J:l_) (s:Shared) (Z:St) (H:Hp) (x y:V) (v u:Value) (Q:VK),Inv X J Z H s->Dm x v->Dm y u->t x y H Q->
  wpAny e_ X.A (inplaceOp op v u) aJ_ X.xe s
section
variable{X:Cx}{pos:Pos}
nonrec def cG(i:Nat):TG:=λv Z H Q=>Q ey_ H
def Cc{i:Nat}{x:Str}(hN:bt!)(hi:ai_)(L:bt_)(hf:X.fn x=true\/X.env.scope.names.lookup x=some .local:=by first|exact .inl rfl|exact .inr rfl|assumption):PG X cZ_ eF!:=by intro J s Z H v u Q I r h;exact wpAny_assign_Name (jS I hN hi L r (λs' I'=>⟨_,H,I',h⟩) hf)
nonrec def c8g:TGs:=λvs Z H Q=>vs=[]/\Q Z H
nonrec def a1d(t:TG)(u:TGs):TGs:=λvs Z H Q=>∃v r,vs=v::r/\t v Z H λhx H'=>u r hx H' Q
def iU:PGs X [] c8g:=by intro J s Z H vs us Q I r h;obtain⟨e,h⟩:=h;subst e;cases r;exact assignInOrder_nil ⟨Z,H,I,h⟩
def Nn{e:Expr}{es:bu_}{t:TG}{u:TGs}(B:PG X e t)(Y:PGs X es u)
  (hs:(assignEach aK_ X.env).map A_=assign e X.env::(l9_).map A_:=by rfl):PGs X aK_ (a1d t u):=by
 intro J s Z H vs us Q I r h;obtain⟨v,vr,e1,h⟩:=h;subst e1;cases r with
 |cons r rr=>
  rw[hs];refine assignInOrder_cons (Gn (B J s Z H _ _ _ I r h) λ_ s1 ⟨dr,H1,I1,q1⟩=>?_);exact Y J s1 dr H1 _ _ Q I1 rr q1
nonrec def c8f(K:W.Frag)(n:Nat)(t:TGs):TG:=λv Z H Q=>∃a xs,v=.ref a/\Lj K H a xs/\i_=n/\t xs Z H Q
def uC{es:bu_}{k:Nat}{t:TGs}{n:Nat}(hc:bf_)(h:PGs X es t)
  (hn:(l9_).length=n:=by rfl)(bz:(l9_).findIdx? b!=none:=by rfl):PG X (.Tuple es k pos) (c8f X.K n t):=by
 intro J s Z H v u Q I r hw;obtain⟨a,xs,e1,hq,hl,hw⟩:=hw;subst e1;cases r;obtain⟨its,rv,ht,hz⟩:=I.tuple hq;refine assign_Tuple_tuple bg! ht (by simp[hn,<-hl,rv.length]) bz λh' L=>?_;have I1:Inv X J Z H {s with heap:=h'}:=I.kept (t':=s.toks) λb o e=>L b o (BV cW!) e;exact h J _ Z H xs _ Q I1 (by simpa using rv) hw
nonrec def d7b(to ti:TE)(t:c3o):TG:=λv Z H Q=>to Z H λo H1=>ti Z H1 λi H2=>t o i v H2 λH3=>Q Z H3
def b4r{o:Expr}{to ti:TE}{t:c3o}(ho:ma_)(hi:PE X i ti)(hs:b1w X t)
  (ha:∀v,assign rQ! X.env v=(do
   let ov <-holding [v] c3_
   let iv <-holding [v,ov] rQ_
   standAt pos
   holding eF_ mb!
   release eF_ []):=by intro _;rfl):PG X rQ! (d7b to ti t):=by
 intro J s Z H v u Q I r h;rw[ha];refine AA (CC (Gn rR! λov s1 ⟨x,H1,I1,r1,q1⟩=>?_));refine AA (CC (Gn (hi J s1 Z H1 _ I1 q1) λiv s2 ⟨y,H2,I2,r2,q2⟩=>?_));refine AA (IP (AA (CC (Gn (hs J s2 Z H2 x y v ov iv u _ I2 r1 r2 r q2) λ_ s3 ⟨H3,I3,q3⟩=>?_))));exact wpAny_release ⟨Z,H3,I3,q3⟩
nonrec def c5q(te:TE)(g:TG):TS:=λD Z H=>te Z H λx H1=>g x Z H1 D.nx
def b4n{tg e:Expr}{te:TE}{g:TG}(he:cv!)(hg:mc_)(hs:swapsWithSole [tg] e pos.line X.env=pure false:=by rfl)(hw:swappedStores [tg] e X.env=pure none:=by rfl)
  (B:(assignEach [tg] X.env).map A_=[assign tg X.env]:=by rfl):PS X (.Assign [tg] e pos) (c5q te g):=by
 intro J s Z H D I h;refine wpAny_Assign_stores rR_ hs hw;rw[B];exact Gn (hg J s1 Z H1 x v _ I1 r1 q1) λ_ s2 q=>q
def a3x{i:Nat}{x:Str}{e:Expr}{te:TE}{ie:Pos}(hN:bt!)(hi:ai_)(L:bt_)(he:cv!)(hs:swapsWith e (some im!) pos.line X.env=pure false:=by rfl)(hf:X.fn x=true\/X.env.scope.names.lookup x=some .local:=by first|exact .inl rfl|exact .inr rfl|assumption):
  PS X (.Assign [.Name x ie] e pos) (c5q te eF!):=by
 intro J s Z H D I h;refine wpAny_Assign_Name (Gn c2! λv s1 ⟨y,H1,I1,r1,q1⟩=>?_) hs;exact jS I1 hN hi L r1 (λs2 I2=>⟨_,H1,I2,q1⟩) hf
nonrec def d5w(i:Nat)(te:TE)(ti:TIp):TS:=λD Z H=>∃x,Z[i]?=some (some x)/\te Z H λy H1=>ti x y H1 λz H2=>D.nx (Z.set i (some z)) H2
def c6j{i:Nat}{x:Str}{e:Expr}{te:TE}{op:Operator}{ti:TIp}{ie:Pos}(hN:bt!)(hi:ai_)(L:bt_)(he:cv!)(ho:PIp X op ti)(hf:X.fn x=true\/X.env.scope.names.lookup x=some .local:=by first|exact .inl rfl|exact .inr rfl|assumption):
  PS X (.AugAssign im! op e pos) (d5w i te ti):=by
 intro J s Z H D I h;obtain⟨v,e1,h⟩:=h;obtain⟨m,hn,hl⟩:=I.loc;have QN:Vis X.env.scope x:=by rcases L with k|k;exact .inl k;exact .inr (.inl k)
 obtain⟨u,r,l⟩:=hl i x v hi e1 QN;refine wpAny_AugAssign_Name ?_;have go:wpAny e_ X.A eA_ (λw al=>wpAny e_ X.A (inplaceOp op u w) (λr dt=>wpAny e_ X.A (storeName X.env x r) (λ_=>SP X J D .next) X.xe dt) X.xe al) X.xe s:=by
  refine Gn c2! λw s1 ⟨y,H1,I1,r1,q1⟩=>?_;refine Gn (ho J s1 Z H1 v y u w _ I1 r r1 q1) λz s2 ⟨zv,H2,I2,r2,q2⟩=>?_;exact jS I2 hN hi L r2 (λs3 I3=>⟨_,H2,I3,q2⟩) hf
 rcases l with⟨hk,hm⟩|⟨hk,c,hc,b9⟩
 .exact wpAny_loadName_local I.ok.kind hk hn hm go
 .rcases hk with hk|hk
  .exact wpAny_loadName_cell I.ok.kind hk hc b9 go
  .rcases L with k|k
   .show"!n"
   .show"!n"
nonrec def ipI(f:md!):TIp:=λx y H Q=>∃i j,x=.int i/\y=.int j/\Q (.int (f i j)) H
def c8c:PIp X .Add (ipI λi j=>i+j):=by intro J s Z H x y v u Q I r1 r2 h;obtain⟨i,j,e1,e2,q⟩:=h;subst e1;subst e2;obtain⟨t,rfl⟩:=r1;obtain⟨t',rfl⟩:=r2;exact iadd_int im_
nonrec def c5o(c:TT)(tb:TS):TS:=λD Z H=>∃W:Nat->St->Hp->Prop,(∃m,W m Z H)/\∀m Z H,W m Z H->
 c Z H λb H1=>if b=true then∃N:St->Hp->Prop,(∀hx H',N hx H'->∃m',m'<m/\W m' hx H')/\tb {D with nx:=N,ct:=N,bk:=D.nx} Z H1 else D.nx Z H1
def b4k{c:Expr}{body:bH!}{tc:TT}{tb:TS}(hp:gc!)(hc:PT X c tc)(O:PSs X body tb):PS X rV! (c5o tc tb):=by
 intro J s Z H D I h;obtain⟨W,⟨m0,w0⟩,turn⟩:=h;refine wpAny_While (codeAny_whileLoop (λn s'=>∃hx H',Inv X J hx H' s'/\W n hx H') ?_ m0 ⟨Z,H,I,w0⟩);rintro n s1 ⟨dr,H1,I1,w1⟩;refine FW hp (Gn (hc J s1 dr H1 _ I1 (turn n dr H1 w1)) λb s2 ⟨H2,I2,q2⟩=>?_);cases b with
 |true=>
  obtain⟨N,hN,q2⟩:=q2;rw[j!];refine FW hp (Gn (O J s2 dr H2 _ I2 q2) λf s3 q3=>?_);cases f with
  |next=>
   show"!g"
  |cont=>
   show"!g"
  |brk=>exact q3
  |ret v=>exact q3
 |false=>
  rw[AI BC];exact JG ⟨dr,H2,I2,q2⟩
end
structure It where
 go:Nat->Hp->Prop
 yld:Nat->Hp->V->Hp->Prop
 stop:Nat->Hp->Prop
nonrec def Qk(X:Cx)(J:l_)(H:Hp)(b:Addr):Prop:=
 H b=none/\b≠X.env.locals/\b∉X.fs/\h2_/\h3!/\∀p∈X.pn++J,p.1≠b
def Inv.fpOk{X:Cx}{J:l_}{Z:St}{H H':Hp}{s:Shared}{b:Addr}(I:d!)(O:p!<=b)(hn:H' b=none):Qk X J H' b:=by
 refine⟨hn,GQ (BE I.lt O),I.nofs O,.inr (BN I.sz O),λx c e z=>?_,λp hp z=>?_⟩
 .obtain⟨v,q⟩:=I.cell x c e;exact absurd (BE q.lt rW_) dF!
 .exact absurd (BE rX_ rW_) dF!
structure oB(P:Program)(w:World)(K:W.Frag)(tg:Expr)(ac:It)(fp:ar_)(it:Addr)(tn:dL_):Prop where
 mem:it∈fp
 obj:∀i h,tn i h->∀b∈fp,∃o,h.get? b=some o/\∀v,o.data≠.cell v
 keep:∀i h h',tn i h->(∀b∈fp,∀o,h.get? b=some o->h'.get? b=some o)->tn i h'
 item:∀(X:Cx),X.prog=P->X.w=w->X.K=K->X.calm=true->∀(i:Nat) (J:l_) (s:Shared) (Z:St) (H:Hp) (E:p_),Inv X J Z H s->rY!->tn i s.heap->ac.go i H->
  wpAny L! X.A io_ (λr s1=>∃u,r=some u/\
   wpAny L! X.A rY_ (λ_ s2=>∃x H',Inv X J Z H' s2/\Dm x u/\ac.yld i H x H'/\tn a2! s2.heap/\∀b∈fp,H' b=none) E s1) E s
 done:∀(X:Cx),X.prog=P->X.w=w->X.K=K->X.calm=true->∀(i:Nat) (J:l_) (s:Shared) (Z:St) (H:Hp) (E:p_),Inv X J Z H s->rY!->tn i s.heap->ac.stop i H->
  wpAny L! X.A io_ (λr s1=>r=none/\Inv X J Z H s1) E s
 self:∀(A:Around) (i:Nat) (s:Shared) (Q:p_) (E:p_),tn i s.heap->Q b0_ s->wpAny L! A (pyIter b0_) Q E s
abbrev TI:=St->Hp->(It->Hp->Prop)->Prop
nonrec def PIE(X:Cx)(J:l_)(Z:St)(tg:Expr)(R:gd!)(ve:Value)(s2:Shared):Prop:=
 ∃(it:Addr) (fp:ar_) (tn:dL_) (ac:It) (H':Hp),ve=.ref it/\Inv X J Z H' s2/\oB X.prog X.w X.K tg ac fp it tn/\tn 0 s2.heap/\(∀b∈fp,Qk X J H' b)/\R ac H'
nonrec def PI(X:Cx)(tg iter:Expr)(wi:TI):Prop:=
 ∀(J:l_) (s:Shared) (Z:St) (H:Hp) (R:gd!),Inv X J Z H s->wi Z H R->
  wpAny e_ X.A (eval iter X.env) (λv s1=>wpAny e_ X.A (pyIter v) rZ_ X.xe s1) X.xe s
def a8o{M:Model}{A:Around}{E:p_}{s:Shared}{tg:Expr}{u:Value}{o:Obj}{n:String}{vs:ab!}{Q:cW_}(ho:s.heap.get? it=some o)(hc:o.cls=.type n)(hd:o.data=.fields vs)
  (hn:(r0!).contains n=false)(hQ:Q () s):wpAny M A rY_ Q E s:=by
 unfold letOwnedTupleGo;cases tg<;>first
  |exact AC hQ
  |(cases u<;>first
    |exact AC hQ
    |(refine AA (wpAny_load ho ?_);rw[hc,hd];show wpAny M A (if((r0!).contains n&&vs[0]?==some (rawInt _))=true then _ else _) Q E s;rw[AI (by intro h;rw[hn,Bool.false_and]at h;cases h)];exact AC hQ))
nonrec def Itl(K:W.Frag)(a:Addr):It:=
 ⟨λi H=>∃xs x,Jf K H a xs/\xs[i]?=some x,λi H x H'=>H'=H/\∀xs,Jf K H a xs->xs[i]?=some x,λi H=>∃xs,Jf K H a xs/\i_<=i⟩
nonrec def Itt(K:W.Frag)(a:Addr):It:=
 ⟨λi H=>∃xs x,Lj K H a xs/\xs[i]?=some x,λi H x H'=>H'=H/\∀xs,Lj K H a xs->xs[i]?=some x,λi H=>∃xs,Lj K H a xs/\i_<=i⟩
nonrec def Itr(lo:Int)(n:Nat):It:=⟨λi _=>i<n,λi H x H'=>H'=H/\x=.int (lo+i),λi _=>n<=i⟩
def a9q{P:Program}{w:World}{K:W.Frag}{tg:Expr}(a it:Addr):oB P w K tg (Itl K a) [it] it (λi h=>h.IsListIter it a i) where
 mem:=by simp
 obj:=λi h st b O=>by
  have e:b=it:=by simpa using O
  subst e;show"!V"
 keep:=λi h h' st k=>st.at λo e=>k it c_ o e
 item:=by
  show"!/";obtain⟨xs,x,hq,L⟩:=hg;obtain⟨its,rv,p,hz⟩:=I.list hq;obtain⟨u,hu,ru⟩:=rv.get L;show"!2";refine wpAny_pyNext_list_item st p.isList (x:=u) ir! λh' h1 sb=>?_;show"!D";exact⟨u,rfl,a8o (s:=ir_) e c d c! ⟨x,H,I1,ru,⟨rfl,mg!⟩,h1,is!⟩⟩
 done:=by
  show"!w";show"!2";have hl:=dM_;exact wpAny_pyNext_list_end bg! st p.isList bJ! λh' eb=>it!
 self:=λ_ _ _ _ _ st h=>wpAny_pyIter_listiter st h
def a2z{P:Program}{w:World}{K:W.Frag}{tg:Expr}(it:Addr)(lo:Int)(n:Nat):oB P w K tg (Itr lo n) [it] it (λi h=>IsRangeIter h it (lo+(i:Nat)*1) ((n:Int) - (i:Nat)) 1) where
 mem:=by simp
 obj:=λi h st b O=>by
  have e:b=it:=by simpa using O
  subst e;exact⟨_,st,λv z=>by
   have z':Data.fields _=Data.cell v:=z;cases z'⟩
 keep:=λi h h' st k=>k it c_ _ st
 item:=by
  show"!/";show"!2";have W:=Walks.range (prog:=X.prog) (w:=X.w) bg! it lo 1 n;refine W.item i s _ _ hg st λv h' tk hv h1 kk=>?_;obtain⟨t,rfl⟩:=hv;show"!b";refine⟨_,rfl,a8o (s:={s with heap:=h',toks:=tk}) (n:="range_iterator") h1 rfl rfl c! ⟨.int (lo+i),H,I1,⟨t,?_⟩,bJ_,h1,is!⟩⟩;rw[Int.mul_one]
 done:=by
  show"!/";show"!2";exact wpAny_pyNext_range_end bg! st (by have:n<=i:=hg;omega) λh' eb=>it!
 self:=λ_ _ _ _ _ st h=>wpAny_pyIter_rangeiter st h
end L2
namespace L2
open PySem PySem.Spec PyProof.Rows
section
variable{X:Cx}{tg:Expr}
nonrec def d2y(K:W.Frag)(tl:TE):TI:=λZ H R=>tl Z H λx H1=>∃a,x=.ref a/\(∃xs,Jf K H1 a xs)/\R (Itl K a) H1
nonrec def d6y(K:W.Frag)(tl:TE):TI:=λZ H R=>tl Z H λx H1=>∃a,x=.ref a/\(∃xs,Lj K H1 a xs)/\R (Itt K a) H1
def a7k{l:Expr}{tl:TE}(hl:PE X l tl):PI X tg l (d2y X.K tl):=by
 intro J s Z H R I h;refine Gn r2_ λv s1 ⟨x,H1,I1,r1,q1⟩=>?_;obtain⟨a,e,⟨xs,hq⟩,q⟩:=q1;subst e;cases r1;obtain⟨its,rv,p,hz⟩:=I1.list hq;refine wpAny_pyIter_list p.isList ?_;refine⟨z_,[z_],_,_,H1,rfl,iu!,a9q a _,dO!,bg_,q⟩;have e:b=z_:=by simpa using O
 show"!R"
def yW{J:l_}{Z:St}{H:Hp}{s:Shared}{R:gd!}{E:p_}{lo hi:Int}{t u v:Tok}{tk:Nat}(I:d!)(B:-gf_<=lo)(Y:lo<2 ^ 62)(h3:-gf_<=hi)(h4:hi<2 ^ 62)
  (q:R (Itr lo (mi!).toNat) H):wpAny e_ X.A (pyIter c5_) rZ_ E {s with heap:=s.heap.push {cls:=.type "range",data:=.fields #[.int lo t,.int hi u,.int 1 v]},toks:=tk}:=by
 refine wpAny_pyIter_range (IsRange.new ..) (small_one B Y h3 h4) ?_;have I1:Inv X J Z H {s with heap:=s.heap.push {cls:=.type "range",data:=.fields #[.int lo t,.int hi u,.int 1 v]},toks:=tk}:=I.kept λb o e=>AG _ e;refine⟨(mi_).objs.size,[(mi_).objs.size],_,_,H,rfl,
  I1.kept (t':=tk) λb o e=>AG _ e,a2z _ lo (mi!).toNat,?_,λb O=>?_,q⟩
 .have e1:lo+c6!*1=lo:=by simp
  have e2:r6! - c6!=Builtin.Range.rangeSize lo hi 1:=by rw[rangeSize_one];split<;>omega
  show IsRangeIter _ _ (lo+c6!*1) (r6! - c6!) 1;rw[e1,e2];exact BD _ rfl
 .have e:b=(mi_).objs.size:=by simpa using O
  show"!R"
nonrec def d2x(ta:TA):TI:=λZ H R=>ta Z H λvs H1=>∃j:Int,vs=[eH!]/\-gf_<=j/\j<2 ^ 62/\R (Itr 0 j.toNat) H1
nonrec def d2w(ta:TA):TI:=λZ H R=>ta Z H λvs H1=>∃i j:Int,vs=[be!,eH!]/\(-gf_<=i/\i<2 ^ 62/\-gf_<=j/\j<2 ^ 62)/\R (Itr i (j - i).toNat) H1
def b0m{a:Expr}{ta:TA}{p pos:Pos}(hg:iw!)(hm:iw_)(ha:PA X [a] ta)(hs:r8!:=by rfl):PI X tg r9! (d2x ta):=by
 intro J s Z H R I h;refine Call_ (Rc I hg hm boot_range (CU mk! hs rfl));obtain⟨j,e,q1,q2,q⟩:=q1;subst e;cases r1 with
 |cons r rr=>
  cases rr;show"#*";exact call_range_1 (yW I1 a! a! q1 q2 (by simpa using q))
def b0l{a b:Expr}{ta:TA}{p pos:Pos}(hg:iw!)(hm:iw_)(ha:PA X ag! ta)(hs:sb!:=by rfl)(bj:sa_:=by rfl):
  PI X tg sc! (d2w ta):=by
 intro J s Z H R I h;refine Call_ (Rc I hg hm boot_range (CU mk! (by rw[hs,bj]) (by rw[bj];rfl)));obtain⟨i,j,e,⟨q1,q2,q3,q4⟩,q⟩:=q1;subst e;cases r1 with
 |cons r rr=>
  cases rr with
  |cons r' rr=>
   cases rr;show"#*";obtain⟨t',rfl⟩:=r';exact call_range_2 (yW I1 q1 q2 q3 q4 q)
nonrec def d5t(wi:TI)(g:TG)(tb:TS):TS:=λD Z H=>wi Z H λac H1=>∃W:Nat->Nat->St->Hp->Prop,(∃m,W 0 m Z H1)/\∀i m Z H,W i m Z H->
 (ac.stop i H/\D.nx Z H)\/(ac.go i H/\∃N:St->Hp->Prop,(∀hx H',N hx H'->∃m',m'<m/\W a2! m' hx H')/\∀x H',ac.yld i H x H'->g x Z H' λc8 H2=>tb {D with nx:=N,ct:=N,bk:=D.nx} c8 H2)
nonrec def lO(fp:ar_)(h:Heap):List ex!:=fp.filterMap λb=>(h.get? b).map λo=>(b,o)
def Tb{fp:ar_}{h:Heap}{b:Addr}{o:Obj}(O:b∈fp)(e:qR_):(b,o)∈lO fp h:=FH.mpr ⟨b,O,by rw[e];rfl⟩
def b0z{fp:ar_}{h:Heap}{p:Addr×Obj}(hp:p∈lO fp h):p.1∈fp/\h.get? p.1=some p.2:=by
 obtain⟨b,O,e⟩:=FH.mp hp;cases q:h.get? b with
 |none=>rw[q]at e;cases e
 |some o=>
  rw[q]at e;have e':(b,o)=p:=BZ e;subst e';exact⟨O,q⟩
def Inv.pinned{J:l_}{Z:St}{H:Hp}{s:Shared}{fp:ar_}(I:d!)(hf:∀b∈fp,Qk X J H b)(ho:∀b∈fp,∃o,s.heap.get? b=some o/\∀v,o.data≠.cell v):Inv X (J++lO fp s.heap) Z H s:=
 I.pins_of λp hp=>(AR.mp hp).elim (λz=>I.pin p (AS _ z)) λz=>by
  obtain⟨O,e⟩:=b0z z;obtain⟨f0,f1,f2,_⟩:=hf p.1 O;obtain⟨o,e',d⟩:=ho p.1 O;rw[e]at e';cases e';exact⟨e,f0,f1,f2,d⟩
def Inv.unpinned{J pl:l_}{Z:St}{H:Hp}{s:Shared}(I:Inv X (J++pl) Z H s):Inv X J Z H s:=I.pins_of λp hp=>I.pin p (AS _ (BG _ hp))
def b4m{body:bH!}{wi:TI}{g:TG}{tb:TS}{pos:Pos}(hp:gc!)(hc:bf_)(hi:mo!)(hg:mc_)(O:PSs X body tb)
  (hs:c6_:=by intro _;rfl):PS X sg_ (d5t wi g tb):=by
 intro J s Z H D I h;refine wpAny_For (Gn (hi J s Z H _ I h) λv s1 B=>Gn B λve s2 Y=>?_) hs;obtain⟨it,fp,tn,ac,H2,e,I2,T,bg,f2,W,⟨m0,w0⟩,turn⟩:=Y;subst e;have mi:∀{H':Hp},gh!->∀b∈fp,Qk X J H' b:=λhn b O=>⟨hn b O,(iy_).2⟩;refine codeAny_forLoop_any (λn s'=>∃i hx H',Inv X J hx H' s'/\tn i s'.heap/\gh!/\W i n hx H') ?_ m0 ⟨0,Z,H2,I2,bg,sh!,w0⟩;rintro n s3 ⟨i,gi,H3,I3,vf,LO,w3⟩;rcases turn i n gi H3 w3 with⟨stop,qn⟩|⟨go,N,hN,step⟩
 .refine FW hp (Gn (T.done X rfl rfl rfl hc i J s3 gi H3 X.xe I3 (mi LO) vf stop) λr s4 ⟨hr,I4⟩=>?_);subst hr;exact JG ⟨gi,H3,I4,qn⟩
 .refine FW hp (Gn (T.item X rfl rfl rfl hc i J s3 gi H3 X.xe I3 (mi LO) vf go) λr s4 ⟨u,hr,h4⟩=>?_);subst hr;refine FW hp (Gn h4 λ_ s5 ⟨x,H5,I5,r5,y5,mj,xg⟩=>?_);have xh:=I5.pinned (mi xg) sh_;refine FW hp (Gn (hg _ s5 gi H5 x u _ xh r5 si!) λ_ s6 ⟨lb,H6,I6,q6⟩=>?_);refine FW hp (Gn (O _ s6 lb H6 _ I6 q6) λf s7 q7=>?_);have again:∀{ip:St} {H7:Hp},Inv X (J++lO fp s5.heap) ip H7 s7->N ip H7->∃m,m<n/\∃i hx H',Inv X J hx H' s7/\tn i s7.heap/\gh!/\W i m hx H':=λ{ip H7} I7 n7=>by
   obtain⟨m',hm,w7⟩:=hN ip H7 n7;refine⟨m',hm,i+1,ip,H7,iz!,T.keep _ _ _ mj λb O o e=>(sj!).1,bg_,w7⟩;obtain⟨o,e,d⟩:=T.obj _ _ mj b O;exact(sj!).2.1
  cases f with
  |next=>obtain⟨ip,H7,I7,n7⟩:=q7;exact again I7 n7
  |cont=>obtain⟨ip,H7,I7,n7⟩:=q7;exact again I7 n7
  |brk=>obtain⟨ip,H7,I7,q7⟩:=q7;exact⟨ip,H7,iz!,q7⟩
  |ret v=>obtain⟨x7,ip,H7,I7,r7,q7⟩:=q7;exact⟨x7,ip,H7,iz!,r7,q7⟩
end
end L2
namespace L2
open PySem PySem.Spec PyProof.Rows
abbrev R2:=V->V->Hp->VK->Prop
nonrec def Md(X:Cx)(f:eI!)(r:R2):Prop:=
 ∀(J:l_) (s:Shared) (Z:St) (H:Hp) (x y:V) (v u:Value) (Q:VK),Inv X J Z H s->Dm x v->Dm y u->r x y H Q->
  wpAny e_ X.A (f v u) aJ_ X.xe s
nonrec def UnR(X:Cx)(f:yT_)(r:mp_):Prop:=
 ∀(J:l_) (s:Shared) (Z:St) (H:Hp) (x:V) (v:Value) (Q:VK),Inv X J Z H s->Dm x v->r x H Q->
  wpAny e_ X.A (f v) aJ_ X.xe s
nonrec def Oq(X:Cx)(f:Value)(r:cw!):Prop:=
 ∀(J:l_) (s:Shared) (Z:St) (H:Hp) (xs:k_) (us:h_) (Q:VK),Inv X J Z H s->Ce xs us->r xs H Q->
  wpAny e_ X.A (call f us) aJ_ X.xe s
nonrec def d7h(X:Cx)(r:V->Hp->rh!->Prop):Prop:=
 ∀(J:l_) (s:Shared) (Z:St) (H:Hp) (x:V) (v:Value) (Q:dH!),Inv X J Z H s->Dm x v->r x H Q->
  wpAny e_ X.A lX! h9_ X.xe s
nonrec def tOp(r:R2)(ta tb:TE):TE:=λZ H Q=>ta Z H λx H1=>tb Z H1 λy H2=>r x y H2 Q
nonrec def tUn(r:mp_)(ta:TE):TE:=λZ H Q=>ta Z H λx H1=>r x H1 Q
nonrec def rI(C:mq!)(g:iB_):R2:=λx y H Q=>∃i j,x=.int i/\y=.int j/\C i j/\Q bw_ H
nonrec def tW(g:iB_):R2:=λx y H Q=>∃i j,x=.int i/\y=.int j/\Q bw_ H
nonrec def rU(g:Int->V):V->Hp->VK->Prop:=λx H Q=>∃i,x=.int i/\Q (g i) H
section
variable{X:Cx}{a b c:Expr}{ta tb tc:TE}{pos:Pos}
def c9m(ha:a0!)(O:ct!){J:l_}{s:Shared}{Z:St}{H:Hp}{R:vx!}(I:d!)
  (h:rj!){Q:p_}{f:eI!}
  (hf:rk!):
  wpAny e_ X.A lR_ rl! X.xe s:=by
 show"!9"
def a7m{op:Operator}{r:R2}(ho:mq_)(ha:a0!)(O:ct!):PE X mr! iC!:=by intro J s Z H Q I h;exact wpAny_BinOp sl!
def d1x{op:UnaryOp}{r:mp_}(ho:UnR X (unaryOp op) r)(ha:a0!):PE X (.UnaryOp op a pos) (tUn r ta):=by intro J s Z H Q I h;exact UnaryOp_ (Gn bY! λv s1 ⟨x,H1,I1,r1,q1⟩=>ho J s1 Z H1 x v Q I1 r1 q1)
def opI{f:eI!}{C:mq!}{g:md!}
  (rule:∀(i j:Int) (t u:Tok) (s:Shared) (Q:p_) (E:p_),C i j->Q sn! {s with toks:=s.toks+1}->wpAny e_ X.A mr_ Q E s):
  Md X f (rI C λi j=>.int bw_):=by
 intro J s Z H x y v u Q I rx ry h;obtain⟨i,j,rfl,rfl,hc,q⟩:=h;show"!?";obtain⟨t',rfl⟩:=ry;exact rule i j t t' s _ _ hc so!
def d2d{f:eI!}{g:md!}
  (rule:∀(i j:Int) (t u:Tok) (s:Shared) (Q:p_) (E:p_),Q sn! {s with toks:=s.toks+1}->wpAny e_ X.A mr_ Q E s):
  Md X f (tW λi j=>.int bw_):=by
 show"!K";exact rule i j t t' s _ _ so!
def c1h{f:eI!}{g:ms!}
  (rule:∀(i j:Int) (t u:Tok) (s:Shared) (Q:p_) (E:p_),Q (.bool bw_) s->wpAny e_ X.A mr_ Q E s):
  Md X f (tW λi j=>.bl bw_):=by
 show"!K";exact rule i j t t' s _ _ ⟨.bl bw_,H,I,rfl,q⟩
nonrec def c9z(i j:Int):Prop:=0<j/\j<1073741824
nonrec def c9y(i j:Int):Prop:=0<=j/\j<=1000000/\dP_<2 ^ 64
nonrec def b8x(i j:Int):Prop:=(-iC_<i/\i<2 ^ 64)\/(-iC_<j/\j<2 ^ 64)
def b8x.ok{i j:Int}(h:b8x i j):IntMulOk i j:=by
 rcases h with⟨B,Y⟩|⟨B,Y⟩
 .exact .of_left sq_
 .exact .of_right sq_
def c6x:Md X eJ! (tW λi j=>.int (i+j)):=d2d λ_ _ _ _ _ _ _ q=>add_int q
def Zm:Md X (binaryOp .Sub) sr_:=d2d λ_ _ _ _ _ _ _ q=>sub_int q
def dZ:Md X mt! mt_:=opI λ_ _ _ _ _ _ _ hc q=>mul_int q hc.ok
def Xg:Md X (binaryOp .FloorDiv) mu!:=opI λi j _ _ _ _ _ hc q=>by
 have B:(0:Int)<j:=hc.1;have Y:j<1073741824:=hc.2;exact floordiv_int a! (by rw[Int.fdiv_eq_ediv_of_nonneg i a!];exact q) (.inl (PyProof.noPylong_small a!))
def Kv:Md X (binaryOp .Mod) mu_:=opI λi j _ _ _ _ _ hc q=>by
 have B:(0:Int)<j:=hc;exact mod_int' a! (by rw[Int.fmod_eq_emod_of_nonneg i a!];exact q)
def c6r:Md X (binaryOp .Pow) mw!:=opI λ_ _ _ _ _ _ _ hc q=>pow_int_small hc.1 hc.2.1 hc.2.2 q
def unI{f:yT_}{g:Int->Int}
  (rule:∀(i:Int) (t:Tok) (s:Shared) (Q:p_) (E:p_),Q (.int (g i) s.toks) {s with toks:=s.toks+1}->wpAny e_ X.A (f dC!) Q E s):
  UnR X f (rU λi=>.int (g i)):=by
 intro J s Z H x v Q I rx h;obtain⟨i,rfl,q⟩:=h;show"!?";exact rule i t s _ _ ⟨.int (g i),H,a0_,J_,q⟩
def c5j:UnR X (unaryOp .USub) (rU λi=>.int (-i)):=unI λ_ _ _ _ _ q=>neg_int q
end
nonrec def d5y:V->V->Bool
 |.non,.non=>true|.non,.int _=>true|.int _,.non=>true|.non,.bl _=>true|.bl _,.non=>true|.non,.str _=>true|.str _,.non=>true
 |.int _,.int _=>true|.bl _,.bl _=>true|.str _,.str _=>true|.byt _,.byt _=>true
 |.int _,.str _=>true|.str _,.int _=>true|.bl _,.str _=>true|.str _,.bl _=>true
 |_,_=>false
nonrec def rNe:R2:=λx y H Q=>d5y x y=true/\Q (.bl (!decide (x=y))) H
def a8x{i j:Int}:decide (V.int i=V.int j)=(i==j):=by rw[EJ];simp
def c8y{i j:Bool}:decide (V.bl i=V.bl j)=(i==j):=by rw[EJ];simp
def a8w:decide (V.str i=V.str j)=(i==j):=by rw[EJ];simp
def c2x{i j:Array UInt8}:decide (V.byt i=V.byt j)=(i.toList==j.toList):=by rw[EJ];cases i;cases j;simp
section
variable{X:Cx}{a b c:Expr}{ta tb tc:TE}{pos:Pos}
def Jd{J:l_}{Z:St}{H:Hp}{s:Shared}{Q:VK}{k k':Bool}(I:d!)(q:Q (.bl k) H)(e:k=k'):EP X J Z Q (.bool k') s:=by subst e;exact⟨.bl k,H,I,rfl,q⟩
def qY:Md X su_ rNe:=by
 intro J s Z H x y v u Q I rx ry h;obtain⟨hs,q⟩:=h;cases x with
 |non=>
  cases rx;cases y with
  |non=>cases ry;exact PySem.EqNone.ne_none_none bK_
  |bl j=>cases ry;exact PySem.EqNone.ne_none_bool bK_
  |int j=>obtain⟨t',rfl⟩:=ry;exact PySem.EqNone.ne_none_int bK_
  |str j=>obtain⟨t',rfl⟩:=ry;exact PySem.EqNone.ne_none_str bK_
  |_=>exact absurd eJ_ BC
 |bl i=>
  cases rx;cases y with
  |non=>cases ry;exact PySem.EqNone.ne_bool_none bK_
  |bl j=>cases ry;exact ne_bool (Jd I q (congrArg not c8y))
  |str j=>obtain⟨t',rfl⟩:=ry;exact PySem.EqMixed.ne_bool_str bK_
  |_=>exact absurd eJ_ BC
 |int i=>
  obtain⟨t,rfl⟩:=rx;cases y with
  |non=>cases ry;exact PySem.EqNone.ne_int_none bK_
  |int j=>obtain⟨t',rfl⟩:=ry;exact ne_int (Jd I q (congrArg not a8x))
  |str j=>obtain⟨t',rfl⟩:=ry;exact PySem.EqMixed.ne_int_str bK_
  |_=>exact absurd eJ_ BC
 |str i=>
  obtain⟨t,rfl⟩:=rx;cases y with
  |non=>cases ry;exact PySem.EqNone.ne_str_none bK_
  |bl j=>cases ry;exact PySem.EqMixed.ne_str_bool bK_
  |int j=>obtain⟨t',rfl⟩:=ry;exact PySem.EqMixed.ne_str_int bK_
  |str j=>obtain⟨t',rfl⟩:=ry;exact ne_str (Jd I q (congrArg not a8w))
  |_=>exact absurd eJ_ BC
 |byt i=>
  obtain⟨t,rfl⟩:=rx;cases y with
  |byt j=>obtain⟨t',rfl⟩:=ry;exact W.ne_bytes (Jd I q (congrArg not c2x))
  |_=>exact absurd eJ_ BC
 |_=>cases y<;>exact absurd eJ_ BC
def a7t:Md X (compareOp .Lt) mx_:=c1h λ_ _ _ _ _ _ _ q=>lt_int q
def d2a:Md X my! (tW λi j=>.bl mz!):=c1h λ_ _ _ _ _ _ _ q=>le_int q
def b5d:Md X zB_ mz_:=c1h λ_ _ _ _ _ _ _ q=>gt_int q
def d2c:Md X (compareOp .GtE) mA_:=c1h λ_ _ _ _ _ _ _ q=>ge_int q
def a3z:Md X zI! sw_:=by
 intro J s Z H x y v u Q I rx ry h;obtain⟨rfl,q⟩:=h;cases ry;refine is_none_gen (Jd I q ?_);cases x<;>first
  |(cases rx;rfl)
  |(obtain⟨t,rfl⟩:=rx;rfl)
def Xe:Md X sx! sy!:=by
 intro J s Z H x y v u Q I rx ry h;obtain⟨rfl,q⟩:=h;cases ry;refine isnot_none_gen (Jd I q ?_);cases x<;>first
  |(cases rx;rfl)
  |(obtain⟨t,rfl⟩:=rx;rfl)
def Md.or{f:eI!}{r r':R2}(h:Md X f r)(h':Md X f r'):Md X f sy_:=by
 intro J s Z H x y v u Q I rx ry q;rcases q with q|q
 .exact h J s Z H x y v u Q I rx ry q
 .exact h' J s Z H x y v u Q I rx ry q
def Bf(b:Expr){op:CmpOp}(h:op≠.In:=by decide)(Y:op≠.NotIn:=by decide):behindInMarks op b=false:=by
 have e1:rv_=false:=by cases op<;>first|rfl|exact absurd rfl h
 have e2:rv!=false:=by cases op<;>first|rfl|exact absurd rfl Y
 cases b<;>simp[behindInMarks,e1,e2]
def a7o{op:CmpOp}{r:R2}(ho:b3_)(ha:a0!)(O:ct!)(hm:dI_):PE X dJ! iC!:=by intro J s Z H Q I h;exact wpAny_Compare1 sl! hm
nonrec def c3x(t:TE):TT:=λZ H Q=>t Z H λx H'=>∃k,x=.bl k/\Q k H'
def a7d{op:CmpOp}{r:R2}(ho:b3_)(ha:a0!)(O:ct!)(hm:dI_):PT X dJ! (c3x iC!):=by
 intro J s Z H Q I h;refine JE (Gn bY! λv s1 ⟨x,H1,I1,r1,q1⟩=>Gn f5! λu s2 ⟨y,H2,I2,r2,q2⟩=>
  Gn mB! λc s3 ⟨z,H3,I3,r3,k,e,q3⟩=>?_) hm
 subst e;cases r3;exact CA ⟨H3,I3,q3⟩
nonrec def b2v(r r':R2)(ta tb tc:TE):TE:=λZ H Q=>ta Z H λx H1=>tb Z H1 λy H2=>r x y H2 λz H3=>∃k,z=.bl k/\
 (if k=true then tc Z H3 λw' H4=>r' y w' H4 Q else Q au_ H3)
def b5a{op ez:CmpOp}{r r':R2}(ho:b3_)(eh:iI_)(ha:a0!)(O:ct!)(hc:PE X c tc)
  (hm:iJ!:=by with_unfolding_all rfl):PE X iJ_ sA_:=by
 intro J s Z H Q I h;refine Compare_chain (Gn bY! λv s1 ⟨x,H1,I1,r1,q1⟩=>chain_link (Gn f5! λu s2 ⟨y,H2,I2,r2,q2⟩=>
  Gn mB! λd s3 ⟨z,H3,I3,r3,k,e,q3⟩=>?_)) hm
 subst e;cases r3;refine CA ?_;cases k with
 |false=>exact ite_ff ⟨.bl false,H3,I3,rfl,q3⟩
 |true=>exact ite_tt (chain_last (Gn sA! λw' s4 ⟨z',H4,I4,r4,q4⟩=>eh J s4 Z H4 y z' u w' Q I4 r2 r4 q4))
def b4j{op ez:CmpOp}{r r':R2}(ho:b3_)(eh:iI_)(ha:a0!)(O:ct!)(hc:PE X c tc)
  (hm:iJ!:=by with_unfolding_all rfl):PT X iJ_ (c3x sA_):=by
 intro J s Z H Q I h;refine isTrue_chain (Gn bY! λv s1 ⟨x,H1,I1,r1,q1⟩=>test_link (Gn f5! λu s2 ⟨y,H2,I2,r2,q2⟩=>
  Gn mB! λd s3 ⟨z,H3,I3,r3,k,e,q3⟩=>?_)) hm
 subst e;cases r3;refine CA ?_;cases k with
 |false=>
  obtain⟨k',e',q'⟩:=q3;cases e';exact ite_ff ⟨H3,I3,q'⟩
 |true=>
  refine ite_tt (test_last (Gn sA! λw' s4 ⟨z',H4,I4,r4,q4⟩=>Gn (eh J s4 Z H4 y z' u w' _ I4 r2 r4 q4) λd' s5 ⟨z2,H5,I5,r5,k2,e2,q5⟩=>?_));subst e2;cases r5;exact CA ⟨H5,I5,q5⟩
nonrec def d3s(K:W.Frag)(x:V)(H:Hp)(k:Bool):Prop:=
 match x with
 |.non=>k=false
 |.bl b=>k=b
 |.int i=>k=gl_
 |.str y=>cw_<=sizeLine/\k=((cw_:Int) != 0)
 |.byt y=>y.size<=sizeLine/\k=((y.size:Int) != 0)
 |.ref p=>(∃xs,Jf K H p xs/\k=! dQ!)\/(∃xs,Lj K H p xs/\k=! dQ!)\/∃kvs,H p=some dQ_/\k=! mD!
 |_=>False
def a4z{κ:Type}{kvs:gm!}{vs:List lx_}(r:KV kvs vs):(!vs.isEmpty)=! mD!:=by cases r<;>rfl
def nA{xs:k_}{its:h_}(r:Ce xs its):(! mD_)=! dQ!:=by cases r<;>simp
def eP:(sizeLine:Nat)<2 ^ 63:=by rw[CH];decide
def c5m:d7h X (λx H Q=>∃k,d3s X.K x H k/\Q k H):=by
 intro J s Z H x v Q I rx h;obtain⟨k,e,q⟩:=h;have hl:=eP;have hs:sizeLine=16777216:=CH;cases x with
 |non=>
  cases rx;have e':k=false:=e;subst e';exact truthy_none mE!
 |bl b=>
  cases rx;have e':k=b:=e;subst e';exact CA mE!
 |int i=>
  show"!?";have e':k=gl_:=e;subst e';exact PySem.P.truthy_int mE!
 |str y=>
  show"!?";obtain⟨hy,e'⟩:cw_<=sizeLine/\k=((cw_:Int) != 0):=e;subst e';exact PySem.P.truthy_str a! ⟨H,a0_,q⟩
 |byt y=>
  show"!?";obtain⟨hy,e'⟩:y.size<=sizeLine/\k=((y.size:Int) != 0):=e;subst e';exact W.truthy_bytes a! ⟨H,a0_,q⟩
 |ref p=>
  cases rx;have e':(∃xs,Jf X.K H p xs/\k=! dQ!)\/(∃xs,Lj X.K H p xs/\k=! dQ!)\/∃kvs,H p=some dQ_/\k=! mD!:=e;rcases e' with⟨xs,L,e'⟩|⟨xs,L,e'⟩|⟨kvs,L,e'⟩
  .subst e';obtain⟨its,r,pl,hz⟩:=I.list L;have ak:=aC!;exact wpAny_truthy_list pl.isList iK_ sE_
  .subst e';obtain⟨its,r,pl,hz⟩:=I.tuple L;have ak:=aC!;exact truthy_tuple pl iK_ sE_
  .subst e';obtain⟨hz,hS,vs,r,m⟩:aB!<=sizeLine/\(p==sysModules)=false/\∃vs,KV kvs vs/\s.heap.DictOf (mixKind X.prog X.w) p vs:=I.hok p _ L;have ak:aB!=by!:=FI r;exact wpAny_truthy_dict hS m a! ⟨H,a0_,by rw[a4z r];exact q⟩
 |_=>exact(sF_).elim
def b4h(ha:a0!)(he:∀dq,isTrue a X.env dq=(do let v <-dq;standAt a.pos;holding [v] lX!)):
  PT X a (λZ H Q=>ta Z H λx H'=>∃k,d3s X.K x H' k/\Q k H'):=by
 show"!I";exact isTrue_plain (Gn bY! λv s1 ⟨x,H1,I1,r1,q1⟩=>c5m J s1 Z H1 x v Q I1 r1 q1) (he _)
def a4a:Md X eJ! (λx y H Q=>∃i j,x=.str i/\y=.str j/\i.length+j.length<=sizeLine/\Q (.str (i++j)) H):=by intro J s Z H x y v u Q I rx ry h;obtain⟨i,j,rfl,rfl,hz,q⟩:=h;obtain⟨t,rfl⟩:=rx;obtain⟨t',rfl⟩:=ry;exact add_str (λt' tk=>⟨.str (i++j),H,a0_,J_,q⟩) hz
def Uz{x:V}(r:Ce [x] us):∃u,us=[u]/\Dm x u:=by
 cases r with
 |cons r1 r2=>cases r2;exact⟨_,rfl,r1⟩
def a6f{x y:V}(r:Ce [x,y] us):∃u w',us=[u,w']/\Dm x u/\Dm y w':=by
 cases r with
 |cons r1 r2=>
  cases r2 with
  |cons r3 r4=>cases r4;exact⟨_,_,rfl,r1,r3⟩
def b8j:Oq X sI_ sJ_:=by intro J s Z H xs us Q I r h;obtain⟨i,rfl,q⟩:=h;obtain⟨u,rfl,t,rfl⟩:=Uz r;exact call_abs_int λu tk=>⟨.int iL_,H,a0_,J_,q⟩
def wX:Oq X a4_ (λxs H Q=>∃i,xs=[be!]/\gn_<1920/\Q mF_ H):=by intro J s Z H xs us Q I r h;obtain⟨i,rfl,hz,q⟩:=h;obtain⟨u,rfl,t,rfl⟩:=Uz r;exact PySem.P.str_of_int hz mG!
def b8h:Oq X sL! sM_:=by intro J s Z H xs us Q I r h;obtain⟨x,rfl,hz,q⟩:=h;obtain⟨u,rfl,t,rfl⟩:=Uz r;exact ord_of_one hz im_
nonrec def c9u(K:W.Frag)(x:V)(H:Hp)(n:Nat):Prop:=
 match x with
 |.str y=>cw_<=sizeLine/\n=cw_
 |.byt y=>y.size<=sizeLine/\n=y.size
 |.ref p=>(∃xs,Jf K H p xs/\n=i_)\/∃xs,Lj K H p xs/\n=i_
 |_=>False
def Ff:Oq X sO! (λxs H Q=>∃x n,xs=[x]/\c9u X.K x H n/\Q go_ H):=by
 intro J s Z H xs us Q I r h;obtain⟨x,n,rfl,e,q⟩:=h;obtain⟨u,rfl,rx⟩:=Uz r;have hl:=eP;have hs:sizeLine=16777216:=CH;cases x with
 |str y=>
  show"!?";obtain⟨hy,e'⟩:cw_<=sizeLine/\n=cw_:=e;subst e';exact len_str a! im_
 |byt y=>
  show"!?";obtain⟨hy,e'⟩:y.size<=sizeLine/\n=y.size:=e;subst e';exact W.len_bytes a! im_
 |ref p=>
  cases rx;have e':(∃xs,Jf X.K H p xs/\n=i_)\/∃xs,Lj X.K H p xs/\n=i_:=e;rcases e' with⟨xs,L,e'⟩|⟨xs,L,e'⟩
  .subst e';obtain⟨its,r',pl,hz⟩:=I.list L;have ak:=iM!;exact Calls.call_len_list pl.isList iK_ sO_
  .subst e';obtain⟨its,r',pl,hz⟩:=I.tuple L;have ak:=iM!;exact len_tuple pl iK_ sO_
 |_=>exact(sF_).elim
end
end L2
namespace L2
open PySem PySem.Spec PyProof.Rows
structure a5y(h:Heap)(x dx C:Addr)(mA:C!):Prop where
 obj:h.get? x=some lA!
 ns:h.Ns1 dx mA
 ne:dx≠x
def b1f{h:Heap}{dx:Addr}{mA:C!}(n:h.Ns1 dx mA):∃od,h.get? dx=some od/\∀name,W.lookIn name od=some (mA name):=by
 obtain⟨o,es,ep,ho,hd,hk,_,hm⟩:=n;refine⟨o,ho,λname=>?_⟩;have e:=hm name;unfold nsFind findBy at e;rw[<-Array.find?_toList]at e;unfold W.lookIn;rw[hd];show"#4";split
 .rename_i y q;rw[q]at e;exact congrArg some e
 .rename_i q;rw[q]at e;have a:es.toList.any (·.refKey)=false:=by
   rw[List.any_eq_false];intro y hy;obtain⟨z,t,QO⟩:=hk y (Array.mem_toList_iff.mp hy);simp[DictEntry.refKey,QO]
  have a':¬es.toList.any (·.refKey)=true:=by rw[a];exact BC
  rw[AI a'];exact congrArg some e
def a5y.look{h:Heap}{x dx C:Addr}{mA:C!}(I:a5y h x dx C mA):∃od,W.InstAt h x lA! C (some od)/\∀name,W.lookIn name od=some (mA name):=
 let⟨od,ho,hl⟩:=b1f I.ns
 ⟨od,⟨I.obj,rfl,rfl,ho⟩,hl⟩
section
variable{prog:Program}{w:World}{A:Around}{E:Value->Shared->Prop}{s:Shared}{K:W.Frag}{x dx C f:Addr}{mA:Str->Option Value}{name:Str}{v:Value}
def c2j{expr:Bool}{Q:p_}(X:iN!)(I:mI_)(hg:sP_)(hh:sQ!)
  (ha:W.findIn K av_ name=some none)(hv:mA name=some v)(QP:W.handedIn v=true)(h:Q v {s with toks:=s.toks+1}):
  wpAny n_ A (getAttr fU_ name expr) Q E s:=by
 show"#A";exact W.get_value X ac (mJ_).1 (W.findObj_own hh ha rfl (by rw[hl,hv])) QP h
def b7b{pl:dR_}{Q:sR_}(X:iN!)(I:mI_)(hg:sP_)
  (hf:W.findIn K av_ name=some eO!)(ht:mK!)(hv:mA name=none)(h:Q (.ref f,[.ref x]) s):
  wpAny n_ A (getMethod fU_ name pl) Q E s:=by
 show"#A";exact W.method_fn X ac (mJ_).1 (mJ_).2 hf (FR.mp ht) (by show(W.lookIn name od).map (·.isSome)=some false;rw[hl,hv];rfl) h
def b9v{ns:k!}{Q:cW_}(X:iN!)(I:mI_)
  (hs:W.findIn K av_ "__setattr__"=some sT_)(hp:W.plainOver K C=true)(ht:W.takerIn K C name=some none)(hh:sQ!)
  (hw:PySem.Within mA ns)(hsz:sU!)
  (h:∀h',a5y h' x dx C (λy=>if y=name then some v else mA y)->Heap.SameBut dx s.heap h'->Q () {s with heap:=h',toks:=s.toks+2}):
  wpAny n_ A (setAttr fU_ name v) Q E s:=by
 show"#A";refine W.set_plain X ac hs (W.osa_open (s:=mM!) (r:=none) X ac hp ht λb=>?_);obtain⟨cd,hc,xc⟩:=W.any_some hh;have L:s.heap.get? x=some ⟨.ref C,some dx,.plain,#[]⟩:=I.obj;refine AA (AC (AA (AA (wpAny_loadPart L (AA (W.Looks.here (s:=mM!) (W.looks_clsIn X hc) ?_))))));rw[xc];refine AC (a:=some dx) (AA (AC gp_));refine wpAny_nsSet1 (s:=mM!) I.ns λh' ig bj=>?_;obtain⟨oD,XO,XQ,xk,xl,QQ⟩:=ig.count (PySem.Within.cons name v hw);refine AA (wpAny_lookBehind xk (by rw[xl];exact pastItsLine_dict (BN QQ sX_)) ?_);exact AC (h _ ⟨(bj.2 _ (AK I.ne)).trans I.obj,ig,I.ne⟩ bj)
def b6c{R:s0!}{kw:dS!}(X:iN!)(hm:s1!)
  (hi:sZ!)(hf:W.typeIn K af_=some (.type "function"))
  (h:codeAny n_ (A.under (.builtin "type.__call__" ⟨.ref C::vs,kw⟩)) (.call af_ ⟨.ref ac!::vs,kw⟩) (W.InitBack ac! R)
   {s with heap:=(eP_).push iO_}):
  codeAny n_ A (.call av_ ⟨vs,kw⟩) R s:=by
 obtain⟨hh,g,d,t,os⟩:=s;exact W.make_core (W.makes_of X hm) (W.looks_findIn X hi) (λself=>W.bind_fn X self hf) aB_ h
end
nonrec def Us(f:Str)(v:V):List dC_->List dC_
 |[]=>[(f,v)]
 |(g,x)::r=>if g=f then(g,v)::r else(g,x)::Us f v r
def fZ(f g:Str)(v:V):∀fs:List dC_,(iP!).lookup g=if g=f then some v else fs.lookup g
 |[]=>by
  show List.lookup g [(f,v)]=_;by_cases h:g=f
  .have O:(g==f)=true:=FR.mpr h;simp only[List.lookup,O,AQ h]
  .have O:(g==f)=false:=EC.mpr h;simp only[List.lookup,O,AI h]
 |(k,x)::r=>by
  have ih:=fZ f g v r;rw[mO!];by_cases hk:k=f
  .rw[a5_];by_cases h:g=k
   .have O:(g==k)=true:=FR.mpr h;simp only[List.lookup,O,AQ (h.trans hk)]
   .have O:(g==k)=false:=EC.mpr h;simp only[List.lookup,O,AI (λe:g=f=>h (e.trans hk.symm))]
  .rw[aE!];by_cases h:g=k
   .have O:(g==k)=true:=FR.mpr h;simp only[List.lookup,O,AI (λe:g=f=>hk (h.symm.trans e))]
   .have O:(g==k)=false:=EC.mpr h;simp only[List.lookup,O];exact ih
def eQ(f:Str)(v:V):∀fs:List dC_,f∈(iP!).map b!/\∀g,g∈fs.map b!->g∈(iP!).map b!
 |[]=>⟨by simp[Us],λg h=>by simp at h⟩
 |(k,x)::r=>by
  obtain⟨i1,i2⟩:=eQ f v r;rw[mO!];by_cases hk:k=f
  .rw[a5_];subst hk;exact⟨J!,λg h=>by simpa using h⟩
  .rw[aE!];refine⟨?_,λg h=>?_⟩
   .rw[AH];exact AD _ i1
   .rw[AH]at h ⊢;rcases AE.mp h with e|e
    .exact AE.mpr (.inl e)
    .exact AD _ (i2 g e)
def gB(f:Str)(v:V):∀fs:List dC_,(iP!).length<=bs!+1
 |[]=>by simp[Us]
 |(k,x)::r=>by
  have ih:=gB f v r;rw[mO!];by_cases hk:k=f
  .rw[a5_,AJ,AJ];omega
  .rw[aE!,AJ,AJ];omega
def cW.some_of{v:V}{o:mP_}(r:cW dG! o):∃u,o=some u/\Dm v u:=by
 cases o with
 |none=>exact(iQ!).elim
 |some u=>exact⟨u,rfl,r⟩
def cW.none_of{o:mP_}(r:cW none o):o=none:=by
 cases o with
 |none=>rfl
 |some u=>exact(iQ!).elim
def b1l{v:V}{u:Value}(r:bu!):W.handedIn u=true:=by
 cases v with
 |non=>cases (show u=cT! from r);rfl
 |bl b=>cases (show u=Value.bool b from r);rfl
 |int i=>obtain⟨t,e⟩:=ta!;cases e;rfl
 |str x=>obtain⟨t,e⟩:=ta_;cases e;rfl
 |byt b=>obtain⟨t,e⟩:=(show∃t,u=Value.bytes b t from r);cases e;rfl
 |flt b=>obtain⟨t,e⟩:=(show∃t,u=Value.float b t from r);cases e;rfl
 |ref a=>cases (show u=Value.ref a from r);rfl
 |ty n=>cases (show u=Value.type n from r);rfl
section
variable{P:Program}{w:World}{H H':Hp}{h h':Heap}{a C dx:Addr}{fs va:List (Str×V)}
def vX(hok:bs_)(e:iR!):∃mA,a5y h a dx C mA/\qE!/\PySem.Within mA lM_/\bs!<=1000/\H dx=some f0_:=by obtain⟨d,z,ne,ob,mA,n,r,q⟩:=(show Jz P w H h a eR! from hok a _ e);exact⟨mA,⟨ob,n,ne⟩,r,q,z,d⟩
end
structure Cls(K:W.Frag)(C:Addr):Prop where
 pg:W.plainGet K C mQ_=true
 hd:W.hasDictIn K C=true
 po:W.plainOver K C=true
 sa:W.findIn K av_ "__setattr__"=some sT_
def Cls.get{K:W.Frag}{C:Addr}(c:Cls K C)(f:Str):W.plainGet K C f=true:=c.pg
nonrec def Ie(K:W.Frag)(C:Addr)(f:Str):Prop:=W.findIn K av_ f=some none
def Ie.taker{K:W.Frag}{C:Addr}{f:Str}(n:Ie K C f):W.takerIn K C f=some none:=by unfold W.takerIn;rw[show W.findIn K av_ f=some none from n];rfl
structure b1y(K:W.Frag)(C:Addr)(m:Str)(f:Addr):Prop where
 at_:W.findIn K av_ m=some eO!
 fn:W.isFn K af_=true
 kp:W.keepIn K af_=true
section
variable{X:Cx}{J:List (Addr×Obj)}{Z:St}{H:Hp}{s:Shared}{a C dx:Addr}{fs:List (Str×V)}{f:Str}{v:V}{A:Around}{E:Value->Shared->Prop}
def a5f{b:Bool}{Q:p_}(I:d!)(e:iR!)(c:dS_)(n:Ie X.K C f)(l:fs.lookup f=some v)
  (h:∀u s',Inv X J Z H s'->Dm v u->Q u s'):wpAny e_ A (getAttr ab_ f b) Q E s:=by
 obtain⟨mA,ml,r,_,_,_⟩:=vX I.hok e;obtain⟨u,hu,ru⟩:=cW.some_of (v:=v) (o:=mA f) (by rw[<-l];exact r f);exact c2j I.kIn ml (c.get f) c.hd n hu (b1l ru) (h u _ iR_ ru)
def Zw{m:Str}{pl:dR_}{Q:sR_}(I:d!)(e:iR!)(c:dS_)(k:b1y X.K C m g)(l:fs.lookup m=none)
  (h:Q (.ref g,bh_) s):wpAny e_ A (getMethod ab_ m pl) Q E s:=by
 obtain⟨mA,ml,r,_,_,_⟩:=vX I.hok e;have hn:mA m=none:=cW.none_of (by rw[<-l];exact r m);exact b7b I.kIn ml (c.get m) k.at_ k.fn hn h
def a3g{y:V}{u:Value}{Q:cW_}(I:d!)(e:iR!)(c:dS_)(n:Ie X.K C f)(hl:bs!<1000)(ry:Dm y u)
  (h:∀s',Inv X J Z (upd H a td_) s'->Q () s'):wpAny e_ A (setAttr ab_ f u) Q E s:=by
 obtain⟨mA,ml,r,wi,_,ho⟩:=vX I.hok e;have hz:(lM_).length<=sizeLine:=by rw[AU,CH];omega
 refine b9v I.kIn ml c.sa c.po n.taker c.hd wi hz λh' O' sb=>h _ ?_;have hd:∃o,h'.get? dx=some o:=let⟨o,_,_,e',_⟩:=O'.ns;⟨o,e'⟩;refine I.write (x:=a) (e:=dx) te! (.inr ho) (λb q O z=>(sb.2 b O).trans z) hd ?_;refine⟨by rw[Bn ml.ne];exact ho,?_,ml.ne,O'.obj,_,O'.ns,λg=>?_,λg hg=>?_⟩
 .have:=gB f y fs;omega
 .show cW ((Us f y fs).lookup g) te_;rw[fZ];by_cases q:g=f
  .rw[AQ q,AQ q];exact ry
  .rw[AI q,AI q];exact r g
 .by_cases q:g=f
  .rw[q];exact(eQ f y fs).1
  .refine(eQ f y fs).2 g (wi g λz=>hg ?_);show te_=none;rw[AI q];exact z
def Inv.made(I:d!):Inv X J Z (upd (upd H s.heap.objs.size (.own ac!)) ac! (.ins C s.heap.objs.size []))
  {s with heap:=(eP_).push iO_}:=by
 have e1:(eP_).get? p!=some iO!:=BD s.heap rfl;have e2:((eP_).push iO_).get? ac!=some iO_:=by
  have:=BD eP_ (o:=W.instObj C p!) rfl;rwa[GI]at this
 have e3:(eP_).Ns s.heap.objs.size (λ_=>none):=⟨iO!,#[],_,e1,rfl,(λe he=>absurd he c_),eS!⟩;have I1:=I.laid (a:=p!) (o:=.own ac!) (h':=s.heap.push iO!) (t':=s.toks) tg_ x_ ⟨_,e1⟩;refine I1.laid (a:=p!+1) (o:=.ins C s.heap.objs.size []) (t':=s.toks) tg_ (HC (GI _ _)) ?_;have ne:p!≠p!+1:=BV eS_;refine⟨by rw[Bn ne,Db],CI _,ne,e2,λ_=>none,(Heap.Ns1.of_empty e3).at λo q=>AG _ q,λ_=>iS!,λy hy=>absurd rfl hy⟩
def c3k{prog:Program}{w:World}{e:Expr}{f:Str}{pos:Pos}{s:Shared}{Q:p_}(O:attributeBase e f env (eval e env)=eval e env)
  (h:wpAny n_ A (eval e env) (λo aj=>wpAny n_ A (getAttr o f true) Q E aj) E s):wpAny n_ A (eval ti! env) Q E s:=
 Attribute_any_ h (by rw[arm_eval_Attribute,O])
end
nonrec def d5u(K:W.Frag)(ta:TE)(f:Str):TE:=λZ H Q=>ta Z H λx H1=>∃a C dx fs v,x=.ref a/\H1 a=some eR!/\Cls K C/\Ie K C f/\fs.lookup f=some v/\Q v H1
nonrec def d5z(K:W.Frag)(ta tv:TE)(f:Str):TS:=λD Z H=>tv Z H λy H1=>ta Z H1 λx H2=>∃a C dx fs,x=.ref a/\H2 a=some eR!/\Cls K C/\Ie K C f/\bs!<1000/\
 D.nx Z (upd H2 a td_)
section
variable{X:Cx}{o e value:Expr}{f:Str}{pos ie XR:Pos}{ta tv:TE}
def c6o(he:PE X e ta)(O:attributeBase e f X.env eA_=eval e X.env):PE X ti! (d5u X.K ta f):=by intro J s Z H Q I h;refine c3k O (Gn c2! λu s1 ⟨x,H1,I1,rx,a,C,dx,fs,v,ex,ea,c,n,l,q⟩=>?_);subst ex;obtain rfl:u=Value.ref a:=rx;exact a5f I1 ea c n l λu' s2 I2 ru=>⟨v,H1,I2,ru,q⟩
def c6i(ha:mS!)(hv:PE X value tv)(hs:swapsWith value (some (.Attribute o f ie)) pos.line X.env=pure false):PS X (.Assign [.Attribute o f ie] value pos) (d5z X.K ta tv f):=by intro J s Z H D I h;refine plainObj_wpAny_Assign_Attribute (Gn (hv J s Z H _ I h) λu s1 ⟨y,H1,I1,ry,q⟩=>Gn (ha J s1 Z H1 _ I1 q) λov s2 ⟨x,H2,I2,rx,a,C,dx,fs,ex,ea,c,n,l,q2⟩=>?_) hs;subst ex;obtain rfl:ov=Value.ref a:=rx;exact a3g I2 ea c n l ry λs3 I3=>⟨Z,_,I3,q2⟩
def c4r{pl:dR_}{m:Str}{ag:Pos}{J:l_}{s:Shared}{Z:St}{H:Hp}{Q:p_}{te:TE}(he:cv!)(I:d!)
  (h:te Z H λx H1=>∃a C dx fs g,x=.ref a/\H1 a=some eR!/\Cls X.K C/\b1y X.K C m g/\fs.lookup m=none/\
   ∀s1,Inv X J Z H1 s1->wpAny e_ X.A (callWith pos (.ref g) bh_ tn! eT!) Q X.xe s1)
  (ht:eval to! X.env=(do
   let ov <-eval e X.env
   standAt gs_
   let(f,first) <-holding [ov] gt!
   callWith pos f first tn! eT!)):
  wpAny e_ X.A (eval to! X.env) Q X.xe s:=by
 refine W.methodCall_KW (pl:=pl) (Gn c2! λu s1 ⟨x,H1,I1,rx,a,C,dx,fs,g,ex,ea,c,k,l,q⟩=>?_) ht;subst ex;obtain rfl:u=Value.ref a:=rx;exact Zw I1 ea c k l (q s1 I1)
end
end L2
namespace L2
open PySem PySem.Spec PyProof.Rows
structure Ax(k:Nat)(A:Around):Prop where
 hd:A.handled=none
 dp:A.depth+3*k+5<recursionLimit
 un:A.units+16*k+200<cLine
def Ax.mono{j k:Nat}{A:Around}(r:gt_)(h:j<=k):Ax j A:=⟨r.hd,by have:=r.dp;omega,by have:=r.un;omega⟩
def Ax.deeper{k:Nat}{A:Around}(r:Ax Q! A)(env:Env):Ax k (A.deeper env):=
 ⟨r.hd,by have:=r.dp;show A.depth+1+3*k+5<_;omega,by have:=r.un;show A.units+3+16*k+200<_;omega⟩
def Ax.in1{k:Nat}{A:Around}(r:Ax Q! A):Ax k A.in1:=
 ⟨r.hd,by have:=r.dp;show A.depth+3*k+5<_;omega,by have:=r.un;show A.units+1+16*k+200<_;omega⟩
def a4s{A:Around}{C:Addr}{kw:dS!}:(iU_).depth=A.depth+1:=by first|rfl|simp[Around.under,Code.weight,Code.isCreation,Code.isGuard,Code.isCaller,Code.frames,Code.isFrame,guardIds]
def a4r{A:Around}{C:Addr}{kw:dS!}:(iU_).units=A.units+1:=by first|rfl|simp[Around.under,Code.cUnits,Code.frames,Code.isFrame]
def Ax.make{k:Nat}{A:Around}(r:Ax Q! A)(C:Addr)(us:h_)(kw:dS!):Ax k iU_:=
 ⟨r.hd,by have:=r.dp;rw[a4s];omega,by have:=r.un;rw[a4r];omega⟩
def Ax.depth{k:Nat}{A:Around}(r:gt_):A.depth<recursionLimit:=by have:=r.dp;omega
def Ax.units{k:Nat}{A:Around}(r:gt_):A.units+64<cLine:=by have:=r.un;omega
def Ax.units0{k:Nat}{A:Around}(r:gt_):A.units<cLine:=by have:=r.un;omega
nonrec def c5p:TA:=λ_ H Q=>Q [] H
nonrec def d0x(ta:TE)(tr:TA):TA:=λZ H Q=>ta Z H λx H1=>tr Z H1 λxs H2=>Q (x::xs) H2
section
variable{X:Cx}{e:Expr}{es:List Expr}{te:TE}{t:TA}{pos:Pos}
def Ku:PA X [] c5p:=λ_ _ _ _ H Q I h=>GT ⟨[],H,I,.nil,h⟩
def Gs(ha:cv!)(hr:gu_)(hs:al_:=by rfl):PA X aK_ (d0x te t):=by intro pos J s Z H Q I h;rw[hs];show wpAny _ _ (spliced (eT_::backTo pos lO_)) _ _ s;refine FB (Gn bY! λu s1 ⟨x,H1,I1,r1,q1⟩=>?_);exact Gn (hr pos J s1 Z H1 _ I1 q1) λus s2 ⟨xs,H2,I2,r2,q2⟩=>⟨x::xs,H2,I2,.cons r1 r2,q2⟩
nonrec def d5m(t:TA):TE:=λZ H Q=>t Z H λxs H1=>i_<=sizeLine/\∀p,H1 p=none->Q b5_ (upd H1 p bc_)
nonrec def d5r(t:TA):TE:=λZ H Q=>t Z H λxs H1=>i_<=sizeLine/\∀p,H1 p=none->Q b5_ (upd H1 p I!)
def b4t {x1}(h:gu_):PE X tr_ (d5m t):=by intro J s Z H Q I hq;refine wpAny_Tuple_spliced ts_;have hf:H1 z_=none:=I1.hok.fresh x_;refine⟨.ref z_,upd H1 s1.heap.objs.size bc_,tt!,rfl,q _ hf⟩;exact⟨z,us,r,⟨_,dN_,rfl,_,rfl⟩⟩
def lP(h:gu_):PE X iV! (d5r t):=by intro J s Z H Q I hq;refine wpAny_List_spliced ts_;have hf:H1 z_=none:=I1.hok.fresh x_;refine⟨.ref z_,upd H1 s1.heap.objs.size I!,tt!,rfl,q _ hf⟩;exact⟨z,us,0,r,dN_⟩
end
abbrev Sp:=List V->Hp->VK->XK->Prop
abbrev CXT:=List Env->Hp->Shared->XK->Value->Shared->Prop
structure oG(P:Program)(w:World)(K:W.Frag)(mg:C!)(base:Heap)(A:Around)(outer:as!)(s:Shared)(H:Hp):Prop where
 frames:A.frames=some outer
 mod:Mod K mg base
 bs:∀b o,base.get? b=some o->s.heap.get? b=some o/\H b=none
 bsz:base.objs.size<=p!
 funs:s.heap.FunFrames base outer
 frf:∀b∈frs outer,H b=none
 hok:cX P w H s.heap
 bare:AllBare s.gens
nonrec def CE(outer:as!)(P:Program)(w:World)(H:Hp)(s:Shared)(Q:VK)(u:Value)(s':Shared):Prop:=
 ∃v H',s'.os=s.os/\AllBare s'.gens/\Un (frs outer) [] H H' s.heap s'.heap/\cX P w H' s'.heap/\Dm v u/\Q v H'
nonrec def CR(CX:CXT)(outer:as!)(P:Program)(w:World)(H:Hp)(s:Shared)(Q:VK)(E:XK)(r:Result)(s':Shared):Prop:=
 match r with
 |.ok (.ret u)=>CE outer P w H s Q u s'
 |.ok _=>False
 |.error e=>CX outer H s E e s'
structure Km(P:Program)(w:World)(K:W.Frag)(mg:C!)(base:Heap)(CX:CXT)(k:Nat)(f:Addr)(fd:FuncData)(ps:k!)(sp:Sp):Prop where
 len:∀vs H Q E,sp vs H Q E->by!=S_
 run:∀(A:Around) (outer:as!) (s:Shared) (H:Hp) (args:Args) (us:h_) (vs:k_) (Q:VK) (E:XK),Ax k A->oG P w K mg base A outer s H->BindsTo s fd args c8_->Ce vs us->sp vs H Q E->
  codeAny L! A (.call af_ args) (CR CX outer P w H s Q E) s
def Km.mono{P:Program}{w:World}{K:W.Frag}{mg:C!}{base:Heap}{CX:CXT}{j k:Nat}{f:Addr}{fd:FuncData}{ps:k!}{sp:Sp}(F:Km P w K mg base CX j f fd ps sp)(h:j<=k):
  Km P w K mg base CX k f fd ps sp:=⟨F.len,λA outer s H args us vs Q E hr=>F.run A outer s H args us vs Q E (hr.mono h)⟩
def Km.imp{P:Program}{w:World}{K:W.Frag}{mg:C!}{base:Heap}{CX:CXT}{k:Nat}{f:Addr}{fd:FuncData}{ps:k!}{sp LP:Sp}(F:Km P w K mg base CX k f fd ps sp)
  (h:∀vs H Q E,LP vs H Q E->sp vs H Q E):Km P w K mg base CX k f fd ps LP:=
 ⟨λvs H Q E q=>F.len vs H Q E (h _ _ _ _ q),λA outer s H args us vs Q E hr he O hv hs=>F.run A outer s H args us vs Q E hr he O hv (h _ _ _ _ hs)⟩
def oG.make{P:Program}{w:World}{K:W.Frag}{mg:C!}{base:Heap}{A:Around}{outer:as!}{s:Shared}{H:Hp}(e:mT_)(C:Addr)(us:h_)(kw:dS!):
  oG P w K mg base iU_ outer s H:=⟨by first|exact e.frames|(simpa[Around.under,Code.envs,Code.isFrame,pushEnvs]using e.frames),e.mod,e.bs,e.bsz,e.funs,e.frf,e.hok,e.bare⟩
def oG.in1{P:Program}{w:World}{K:W.Frag}{mg:C!}{base:Heap}{A:Around}{outer:as!}{s:Shared}{H:Hp}(e:mT_):
  oG P w K mg base A.in1 outer s H:=⟨e.frames,e.mod,e.bs,e.bsz,e.funs,e.frf,e.hok,e.bare⟩
section
variable{X:Cx}{J:List (Addr×Obj)}{Z:St}{H:Hp}{s s':Shared}
def Inv.env0(I:d!):oG X.prog X.w X.K X.mg X.base X.A X.stack s H:=
 ⟨I.ok.frames,I.ok.mod,I.bs,BN I.ok.bsz I.sz,I.stack,I.stkFree,I.hok,I.bare⟩
def Inv.after{Q:VK}{u:Value}(I:d!)(h:CE X.stack X.prog X.w H s Q u s'):EP X J Z Q u s':=by obtain⟨v,H',os,bare,un,hok,r,q⟩:=h;obtain⟨hh,g,d,t,QR⟩:=s';obtain rfl:QR=s.os:=os;exact⟨v,H',I.call (h':=hh) (g':=g) (d':=d) (t':=t) (ch:=[]) un hok bare (λb z=>absurd z c_),r,q⟩
end
nonrec def d0y(sp:Sp)(dvs:k_)(E:XK)(t:TA):TE:=λZ H Q=>t Z H λvs H1=>sp c9! H1 Q E
nonrec def c3y(C:Addr)(m:Str)(sp:Sp)(dvs:k_)(E:XK)(ta:TE)(t:TA):TE:=λZ H Q=>ta Z H λx H1=>∃a dx fs,x=.ref a/\H1 a=some eR!/\fs.lookup m=none/\
 t Z H1 λvs H2=>sp (x::c9!) H2 Q E
nonrec def c3z(C:Addr)(sp:Sp)(dvs:k_)(E:XK)(t:TA):TE:=λZ H Q=>t Z H λvs H1=>∀x dx,H1 x=none->H1 dx=none->dx≠x->
 sp (.ref x::c9!) mV_ tv! E
nonrec def Js(K:W.Frag)(fd:FuncData)(ps:k!)(ds:h_):Prop:=
 ∀(s:Shared) (us:h_),K.In s.heap->(eU_).length=S_->BindsTo s fd c9_ (ps.zip eU_)
def Js.all{K:W.Frag}{fd:FuncData}{ps:k!}(h:∀us:List Value,ar!=S_->bindArgs fd c9_=pure c8_):Js K fd ps []:=λs us _ hl=>by
 rw[BL]at hl ⊢;exact .of_eq (h us hl)
nonrec def Wx(CX:CXT)(X:Cx)(E:XK):Prop:=∀(J:l_) (Z:St) (H:Hp) (s:Shared) (e:Value) (s':Shared),Inv X J Z H s->CX X.stack H s E e s'->X.xe e s'
section
variable{X:Cx}{CX:CXT}{k:Nat}{f C:Addr}{fd:FuncData}{ps:List Str}{sp:Sp}{dvs:List V}{ds:List Value}{E:XK}{x m:Str}{p pos ag:Pos}{e o:Expr}{es:List Expr}{ta:TE}{t:TA}
def tS{J:l_}{Z:St}{H:Hp}{s:Shared}{Q:VK}(F:dT_)(hr:b6!)(O:dU!)(hd:dU_)(L:dV!)
  (I:d!)(r:eB!)(h:sp c9! H Q E):wpAny e_ X.A (call af_ us) aJ_ X.xe s:=by
 have r2:Ce c9! eU_:=r.append hd;have hl:(eU_).length=S_:=by rw[<-r2.length];exact F.len _ _ _ _ h
 refine wpAny_call (JH (F.run X.A X.stack s H c9_ eU_ c9! Q E hr I.env0 (O s us I.kIn hl) r2 h) λr s' hq=>?_);cases r with
 |error e=>exact L J Z H s e s' I hq
 |ok fl=>
  cases fl with
  |ret u=>exact I.after hq
  |next=>exact False.elim hq
  |brk=>exact False.elim hq
  |cont=>exact False.elim hq
def a7p(F:dT_)(hr:b6!)(hg:R_)(hm:X.mg x=some af_)(hk:W.keepIn X.K af_=true)(O:dU!)(hd:dU_)(L:dV!)
  (ha:eV!)(be:F_:=by decide)(he:al_:=by rfl)(av:aT_:=by rfl):
  PE X bi! (d0y sp dvs E t):=by
 show"!I";refine EX mW!;refine W.callWith_K (h₀:=X.base) I.ok.mod.kin hk tx! he av;exact tS F hr O hd L I1 r q
def c0x{pl:dR_}(he:mS!)(c:dS_)(hm:b1y X.K C m f)(F:dT_)(hr:b6!)(O:dU!)(hd:dU_)(L:dV!)(ha:eV!)
  (bz:al_:=by rfl)(av:aT_:=by rfl)
  (ht:eval iW! X.env=(do
   let ov <-eval o X.env
   standAt gs_
   let(f,first) <-holding [ov] gt!
   callWith pos f first ty_ eT!):=by rfl):
  PE X iW! (c3y C m sp dvs E ta t):=by
 show"!<";refine W.callWith_K (first:=bh_) (h₀:=X.base) I.ok.mod.kin hm.kp (Gn (ha pos J s1 Z H1 _ I1 q) λus s2 ⟨vs,H2,I2,r,q2⟩=>tz_) bz av;exact tS (us:=.ref a::us) (vs:=.ref a::vs) F hr O hd L I2 (.cons rfl r) q2
def b4x{pl:dR_}(he:mS!)(c:dS_)(hm:b1y X.K C m f)(F:dT_)(hr:b6!)(O:dU!)(hd:dU_)(L:dV!)
  (ht:eval iW_ X.env=(do
   let ov <-eval o X.env
   standAt gs_
   let(f,first) <-holding [ov] gt!
   callWith pos f first mX! eT!):=by rfl):
  PE X iW_ (c3y C m sp dvs E ta c5p):=by
 show"!<";exact W.callWith_K0 (first:=bh_) I1.kIn hm.kp (tS (us:=bh_) (vs:=bh_) F hr O hd L I1 tC! q)
structure Mk(K:W.Frag)(C f:Addr):Prop where
 makes:W.makesIn K C=true
 init:W.findIn K av_ "__init__"=some eO!
 fn:W.isFn K af_=true
 kp:W.keepIn K av_=true
def yL{J:l_}{Z:St}{H:Hp}{s:Shared}{Q:VK}(M:mX_)(F:dT_)(hr:gv_)(O:dU!)(hd:dU_)
  (L:dV!)(I:d!)(r:eB!)
  (h:∀x dx,H x=none->H dx=none->dx≠x->sp (.ref x::c9!) (upd (upd H dx hX!) x mV!) tv! E):
  wpAny e_ X.A (call av_ us) aJ_ X.xe s:=by
 have hq:=h ac! s.heap.objs.size tE_ gw! (BV eS_);have I2:=Inv.made (C:=C) I;have r2:Ce (V.ref ac!::c9!) tD_:=.cons rfl (r.append hd);have hl:(Value.ref ac!::us++ds).length=S_:=by
  have e:=r2.length;rw[F.len _ _ _ _ hq]at e;exact e.symm
 refine wpAny_call (b6c (f:=f) I.kIn M.makes M.init (FR.mp M.fn) (JH (F.run _ X.stack _ _ ⟨Value.ref ac!::us,[]⟩ tD_ _ _ E (hr.make C us [])
  (I2.env0.make C us []) (O _ (Value.ref ac!::us) I2.kIn hl) r2 hq) λr s' a9=>?_))
 cases r with
 |error e=>exact L J Z _ _ e s' I2 a9
 |ok fl=>
  cases fl with
  |ret u=>
   obtain⟨v,H',I3,rv,ev,q3⟩:=I2.after a9;subst ev;exact⟨rv,⟨V.ref ac!,H',I3,rfl,q3⟩⟩
  |next=>exact False.elim a9
  |brk=>exact False.elim a9
  |cont=>exact False.elim a9
def c0y(M:mX_)(F:dT_)(hr:gv_)(hg:R_)(hm:tF_)(O:dU!)(hd:dU_)(L:dV!)
  (ha:eV!)(be:F_:=by decide)(he:al_:=by rfl)(av:aT_:=by rfl):
  PE X bi! (c3z C sp dvs E t):=by
 show"!I";refine EX mW!;refine W.callWith_K (h₀:=X.base) I.ok.mod.kin M.kp tx! he av;exact yL M F hr O hd L I1 r q
def b4y(M:mX_)(F:dT_)(hr:gv_)(hg:R_)(hm:tF_)(O:dU!)(hd:dU_)(L:dV!)
  (be:F_:=by decide):PE X tG! (c3z C sp dvs E c5p):=by
 show"!I";refine EX mW!;exact W.callWith_K0 I.kIn M.kp (yL (us:=[]) M F hr O hd L I .nil h)
end
structure As(N P:k!)(sc:Scope):Prop where
 kind:sc.kind=.function
 co:sc.isCoroutine=false
 gen:sc.isGenerator=false
 nd:N.Nodup
 pre:N.take P.length=P
 par:∀x∈P,sc.names.lookup x=some .local\/sc.names.lookup x=some .cell
 nofree:∀y∈sc.names,y.2≠.free
def sL{kindOf:iY_}{x:Str}:∀{binds:dS!} {m:C!},tI!->bindL kindOf binds m x=m x
 |[],_,_=>rfl
 |(n,v)::r,m,h=>by
  unfold bindL;rw[sL λw hw=>h w (AD _ hw)];split
  .have:x≠n:=by rintro rfl;exact h v AL
   simp[this]
  .rfl
def sN{kindOf:iY_}{x:Str}:∀{binds:dS!} {m:C!},tI!->bindC kindOf binds m x=m x
 |[],_,_=>rfl
 |(n,v)::r,m,h=>by
  unfold bindC;rw[sN λw hw=>h w (AD _ hw)];split
  .rfl
  .have:x≠n:=by rintro rfl;exact h v AL
   simp[this]
def sM{kindOf:iY_}{x:Str}{v:Value}:∀{P:k!} {vs:h_} {i:Nat} {m:C!},P.Nodup->P[i]?=some x->vs[i]?=some v->kindOf x=some .local->
  bindL kindOf (P.zip vs) m x=some v
 |[],_,_,_,_,h,_,_=>by simp at h
 |_::_,[],_,_,_,_,h,_=>by simp at h
 |p::P,w::vs,0,m,nd,B,Y,hk=>by
  simp at B Y;subst B;subst Y;show bindL kindOf iZ_ m p=_;unfold bindL;rw[sL λv hv=>(i0_).1 (KB hv).1,a5_];simp
 |p::P,w::vs,i+1,m,nd,B,Y,hk=>by
  show bindL kindOf iZ_ m x=_;unfold bindL;exact sM (i:=i) (i0_).2 tJ! tK! hk
def sO{kindOf:iY_}{x:Str}{v:Value}:∀{P:k!} {vs:h_} {i:Nat} {m:C!},P.Nodup->P[i]?=some x->vs[i]?=some v->kindOf x≠some .local->
  bindC kindOf (P.zip vs) m x=some v
 |[],_,_,_,_,h,_,_=>by simp at h
 |_::_,[],_,_,_,_,h,_=>by simp at h
 |p::P,w::vs,0,m,nd,B,Y,hk=>by
  simp at B Y;subst B;subst Y;show bindC kindOf iZ_ m p=_;unfold bindC;rw[sN λv hv=>(i0_).1 (KB hv).1,aE!];simp
 |p::P,w::vs,i+1,m,nd,B,Y,hk=>by
  show bindC kindOf iZ_ m x=_;unfold bindC;exact sO (i:=i) (i0_).2 tJ! tK! hk
nonrec def Yi(N:k!)(vs:k_):St:=vs.map some++List.replicate (i1! - by!) none
nonrec def fD(CX:CXT)(P:Program)(w:World)(K:W.Frag)(mg:C!)(base:Heap)(N:k!)(qual:Str)(scope:Scope)(f:Addr)(cd:Value)(A:Around)(outer:as!)(s:Shared)(H:Hp)(E:XK):Cx where
 prog:=P
 w:=w
 K:=K
 mg:=mg
 base:=base
 A:=A.deeper gx!
 N:=N
 s₀:=s
 H₀:=H
 env:=envOfC qual scope s.heap.objs.size f cd
 outer:=outer
 stack:=envOfC qual scope s.heap.objs.size f cd::outer
 ex:=[]
 calm:=true
 fn:=λ_=>true
 pn:=[]
 xe:=λe s'=>wpAny L! (A.deeper gx!) (leaving gx! e) (λ_ xm=>CX outer H s E e xm) (λe' xm=>CX outer H s E e' xm) s'
def a2b{sc:Scope}{n:Nat}{x:Str}(h:sc.names.lookup x=some .cell):∃c,(cellsFrom n sc.names []).lookup x=some c:=by have q:=W.cellsFrom_some sc.names n [] ih!;exact HP.mp q
def b1i{CX:CXT}{P:Program}{w:World}{K:W.Frag}{mg:C!}{base:Heap}{ps:k!}{scope:Scope}{f:Addr}{A:Around}{outer:as!}{s:Shared}{H:Hp}{E:XK}{vs:k_}
  (S:As N ps scope)(hd:eW!)(e0:mT_)(hl:by!=S_)(r:eB!)
  (x:InCallC s s.heap.objs.size (bindL (gx!).kindOf c8_ λ_=>none) tL! (bindC (gx!).kindOf c8_ λ_=>none) s1):
  Inv tL_ [] gy! H s1:=by
 have av:S_<=i1!:=by have:=congrArg List.length S.pre;rw[HX]at this;omega
 obtain⟨B,tk,rfl,hk⟩:=x.done;have q9:∀b:Addr,b∉(tL_).ex:=λb z=>absurd tM_ c_;refine⟨⟨e0.mod,S.kind,rfl,rfl,AY _,λy z c B Y=>?_,λy hy=>?_,λy c _ h=>?_,λ_=>hd,Around.frames_deeper e0.frames,.inr bJ_,tO!,e0.bs,e0.bsz,λb _ _=>q9 b,tO!,e0.funs,e0.frf⟩,
  rfl,e0.bare,Un.kept hk,⟨_,x.toInCall.ns,λi y v B Y h3=>?_⟩,λy c h=>⟨_,x.cell y c h⟩,e0.hok.fresh x_,λy c h=>?_,λp hp=>absurd (show p∈([]:List ex!)from hp) c_,e0.hok.kept hk,?_⟩
 .exact name_of_addr x.apart (ED B) (ED Y)
 .have hy:scope.names.lookup y=some .cell\/scope.names.lookup y=some .free:=hy;rcases hy with hy|hy
  .exact a2b hy
  .exact absurd rfl (S.nofree _ (ED hy))
 .exact FK tP!
 .have hi:i<by!:=by
   unfold Yi at Y;by_cases hi:i<by!
   .exact hi
   .rw[eW_]at Y;rw[GF]at Y;split at Y<;>cases Y
  have ha:vs[i]?=some v:=by
   unfold Yi at Y;rw[DC gz!,BS]at Y;cases e:vs[i]? with
   |none=>rw[e]at Y;cases Y
   |some a=>rw[e]at Y;cases Y;rfl
  obtain⟨u,hu,rv⟩:=r.get ha;have hp:ps[i]?=some y:=by
   rw[<-S.pre,List.getElem?_take_of_lt a!];exact B
  have LQ:ps.Nodup:=by rw[<-S.pre];exact S.nd.sublist (List.take_sublist _ _)
  refine⟨u,rv,?_⟩;rcases S.par y (GS hp)with k|k
  .exact .inl ⟨k,sM LQ hp hu k⟩
  .obtain⟨c,e⟩:=a2b (n:=p!+1) k;refine .inr ⟨.inl k,c,e,?_⟩;have q:=x.cell y c e;rw[sO LQ hp hu (by show scope.names.lookup y≠_;rw[k];decide)]at q;exact q
 .exact e0.hok.fresh (FK tP!)
 .unfold Yi;show _=i1!;rw[AT,AU,FN];omega
def d3c{CX:CXT}{P:Program}{w:World}{K:W.Frag}{mg:C!}{base:Heap}{k:Nat}{f:Addr}{name:Str}{params:Arguments}{body:bH!}{kV:Value}{an od:a6_}
  {du:b7_}{ps:k!}{sp:Sp}(lk:K.lookup f=some ⟨oc,od,.func tS_,du⟩)(bv:i3!)(S:As N ps scope)
  (len:tT!)
  (ph:∀(A:Around) (outer:as!) (s:Shared) (H:Hp) (vs:k_) (Q:VK) (E:XK),Ax k (A.deeper (envOfC qual scope s.heap.objs.size f ae))->sp vs H Q E->
   ∃t,PSs m0_ body t/\t {nx:=λ_ H'=>Q .non H',rt:=Q} gy! H):
  Km P w K mg base CX Q! f tS_ ps sp:=by
 refine⟨len,λA outer s H args us vs Q E hr e0 O r jc=>?_⟩;have hl:=len _ _ _ _ jc;have KX:K.In s.heap:=e0.mod.kin.keeps λb o e=>(e0.bs b o e).1;have ax:s.heap.NoLimit:=e0.mod.nolimit.keeps λb o e=>(e0.bs b o e).1;have ce:∀y∈ps.zip us,scope.names.lookup y.1=some .local\/(scope.names.lookup y.1=some .cell/\((tL!).lookup y.1).isSome=true):=λ⟨n,v⟩ hy=>by
  rcases S.par n (KB hy).1 with q|q
  .exact .inl q
  .exact .inr ⟨q,W.cellsFrom_some _ _ _ (.inl q)⟩
 refine codeAny_call_function hr.depth (KX _ _ lk) rfl S.co S.gen rfl (W.codeRec_of KX bv) (O _ _ _ _ ?_);refine wpAny_newFunctionEnv_cells S.kind ce λenv he s1 x=>?_;subst he;refine⟨ax.keeps x.toInCall.keep,codeAny_func ?_⟩;obtain⟨t,ht,hq⟩:=ph A outer s H vs Q E (hr.deeper _) jc;have I:Inv m0_ [] gy! H s1:=b1i S hr.hd e0 hl r x;refine DF (ht [] s1 gy! H _ I hq) (λfl s' hs=>?_) λe s' hs=>hs;have fin:∀{hx:St} {H':Hp} {v:V} {u:Value},Inv m0_ [] hx H' s'->Dm v u->Q v H'->CE outer P w H s Q u s':=
  λ{hx H' v u} ac rv q=>⟨v,H',ac.os,ac.bare,ac.base,ac.hok,rv,q⟩
 cases fl with
 |ret u=>
  obtain⟨v,hx,H',ac,rv,q⟩:=hs;exact fin ac rv q
 |next=>
  obtain⟨hx,H',ac,q⟩:=hs;exact fin (v:=V.non) (u:=cT!) ac rfl q
 |brk=>
  obtain⟨_,_,_,q⟩:=hs;exact False.elim q
 |cont=>
  obtain⟨_,_,_,q⟩:=hs;exact False.elim q
end L2
namespace L2
open PySem PySem.Spec PyProof.Rows
section
variable{X:Cx}{x:Str}{p pos:Pos}{e:Expr}{es:List Expr}{t:TA}{id T:String}{r:List V->Hp->VK->Prop}
nonrec def tCB(r:cw!)(t:TA):TE:=λZ H Q=>t Z H λvs H1=>r vs H1 Q
def lQ(hc:m1_)(hg:R_)(hm:ct_)(hv:m2!)(ha:eV!)(hn:cu!:=by decide)(be:F_:=by decide)
  (he:al_:=by rfl)(av:aT_:=by rfl):PE X bi! (tCB r t):=by
 show"!I";refine EX tV_;exact PyProof.Rows.callWith_builtin1 tV! he av
def qW(hc:m2_)(hg:R_)(hm:ct_)(hv:i3_)(ha:eV!)(hn:cu!:=by decide)(be:F_:=by decide)
  (he:al_:=by rfl)(av:aT_:=by rfl):PE X bi! (tCB r t):=by
 show"!I";refine EX tV_;exact CU tV! he av
end
end L2
namespace HT
open PySem PyProof.Rows
nonrec def lexLt:List Int->List Int->Bool
 |[],[]=>false
 |[],_::_=>true
 |_::_,[]=>false
 |x::xs,y::ys=>if x=y then lexLt xs ys else decide (x<y)
def lexLt_cons(x y:Int)(xs ys:D!):lexLt (x::xs) (y::ys)=if x=y then lexLt xs ys else decide (x<y):=rfl
def lexLt_nil_nil:lexLt [] []=false:=rfl
def mK(y:Int)(ys:D!):lexLt [] (y::ys)=true:=rfl
def mL(x:Int)(xs:D!):lexLt (x::xs) []=false:=rfl
def b7j(A:Around)(s:Shared)(a:Int)(t:Tok)(c:Int)(u:Tok):∃e,SeqAt.EqAt A s gA! m3! e/\(e=true↔a=c):=
 ⟨(a==c),HU a t c u,J!⟩
section
open PySem.SeqAt
open PySem.AutoSeq1 (wpAny_loadPart')
open PySem.MeetsSeq PySem.MeetsSeq2 PySem.MeetsSeq3
end
section
variable{prog:Program}{w:World}{A:Around}{E:Value->Shared->Prop}{s:Shared}
def cat_tup{t b:Addr}{vs ws:h_}{Q:p_}(ht:IsTup s.heap t b8!)(O:IsTup s.heap b ws.toArray)(hv:vs≠[])
  (B:ws=[]->Q i4_ s)(Y:ws≠[]->Q c5_ {s with heap:=s.heap.push {cls:=.type "tuple",data:=.seq (vs++ws).toArray}})
  (hsz:by!+m3_<=sizeLine):wpAny n_ A (binaryOp .Add i4_ dV_) Q E s:=by
 obtain⟨⟨cls,dd,data,sl⟩,ho,hc,n,hd⟩:=id ht;obtain⟨⟨LS,lf,data2,jd⟩,je,jf,n2,jg⟩:=id O;simp only at hc hd jf jg;subst hc hd jf jg;have e:b8!++ws.toArray=(vs++ws).toArray:=by simp
 by_cases hw:ws=[]
 .exact concat_meets i5! i5_ noFill_tuple_add seq_tuple_add IA HR (HN _ _)
   (tuple_addW1 t b vs.toArray ws.toArray n n2 dd lf sl jd i6_ (by simp[hw])) ⟨ho,je,B hw⟩
 .refine concat_meets i5! i5_ noFill_tuple_add seq_tuple_add IA HR (HN _ _)
   (tuple_addW2 t b vs.toArray ws.toArray n n2 dd lf sl jd i6_ m4! (by rw[AN,AN];exact hsz)) ⟨ho,je,?_⟩
  rw[e];exact Y hw
nonrec def sIx(n d:Nat):Option Int->Nat
 |none=>d
 |some v=>if v<0 then(m4_).toNat else min v.toNat n
def sIx_none(n d:Nat):sIx n d none=d:=rfl
def sIx_nat(n d k:Nat):sIx n d (some (k:Int))=min k n:=by show(if(k:Int)<0 then((k:Int)+(n:Int)).toNat else min (k:Int).toNat n)=min k n;rw[AI a!,FA]
def c5u(n d:Nat)(hd:d<=n)(o:a7!):sIx n d o<=n:=by
 cases o with
 |none=>exact hd
 |some v=>
  show tY_<=n;by_cases hv:v<0
  .rw[AQ hv];omega
  .rw[AI hv];exact Nat.min_le_right _ _
def a9d(v:Int)(n d:Nat):tZ_=((sIx n d dG!:Nat):Int):=by
 show tZ_=((tY_:Nat):Int);by_cases hv:v<0
 .simp only[AQ hv];omega
 .simp only[AI hv];omega
def a5u(lo hi:a7!)(n:Nat):Builtin.Slice.sliceAdjust lo hi 1 (n:Int)=(i7_,t0!):=by
 have B:¬((1:Int)<0):=by omega
 unfold Builtin.Slice.sliceAdjust;simp only[B,BW];refine Prod.ext ?_ ?_
 .cases lo with
  |none=>rfl
  |some v=>exact a9d v n 0
 .cases hi with
  |none=>rfl
  |some v=>exact a9d v n n
def a3y(i j:Nat):Builtin.Slice.slicePlaces (i:Int) (j:Int) 1=j - i:=by
 unfold Builtin.Slice.slicePlaces;have B:(1:Int)>0:=by omega
 simp only[B,CF,Int.ediv_one];split<;>omega
def kL{v:Value}{o:a7!}{Q:Option Int->Shared->Prop}(p:IsPart v o)(h:Q o s):wpAny n_ A (Builtin.Slice.slicePartIndex v) Q E s:=by
 cases p with
 |none=>exact slicePart_none h
 |int i t=>exact slicePart_int h
def dI{lo hi:a7!}{n:Nat}{Q:Int×Int×Nat->Shared->Prop}(hs:t1!)(pl:IsPart vl lo)(pu:IsPart vu hi)
  (h:Q (i7_,1,sIx n n hi - sIx n 0 lo) s):wpAny n_ A (Builtin.Slice.sliceApplied i8! (pure (n:Int))) Q E s:=by
 obtain⟨os,mv,pi,vg⟩:=id hs;unfold Builtin.Slice.sliceApplied Builtin.Slice.sliceFields;refine AA (AA (DU mv vg (x:=vl) rfl (AA (DU mv vg (x:=vu) rfl (AA (DU mv vg (x:=.none) rfl ac_))))));refine AA (slicePart_none ?_);show wpAny _ _ (if((1:Int)==0)=true then _ else _) _ _ s;rw[AI c!];refine AA (kL pl (AA (kL pu (AA ac_))));show wpAny _ _ (match Builtin.Slice.sliceAdjust lo hi 1 (n:Int)with|(lo,hi)=>pure (lo,(1:Int),Builtin.Slice.slicePlaces lo hi 1)) _ _ s;rw[a5u lo hi n];show wpAny _ _ (pure (i7_,(1:Int),Builtin.Slice.slicePlaces i7_ t0! 1)) _ _ s;rw[a3y];exact AC h
def b4q(xs:ab!)(i k:Nat):((List.range k).filterMap λ(m:Nat)=>xs[(m5_).toNat]?).toArray=((xs.toList.drop i).take k).toArray:=by
 have e:(λ(m:Nat)=>xs[(m5_).toNat]?)=λm=>xs[i+m]?:=by
  funext m;have:(m5_).toNat=i+m:=by omega
  rw[this]
 rw[e];have:=pick_run xs i k;rw[List.filterMap_map]at this;have e2:((λx=>xs[x]?)∘λx=>i+x)=λm=>xs[i+m]?:=rfl;rw[e2]at this;rw[this]
def getItem_tuple_cut{t:Addr}{items:ab!}{lo hi:a7!}{Q:p_}(ht:IsTup s.heap t items)(hs:t1!)(pl:IsPart vl lo)(pu:IsPart vu hi)
  (hw:¬(sIx items.size 0 lo=0/\sIx items.size items.size hi=da!))
  (h:Q c5_ {s with heap:=s.heap.push {cls:=.type "tuple",data:=.seq (m6!).toArray}})
  (hsz:da!<=sizeLine):wpAny n_ A (getItem i4_ i8!) Q E s:=by
 have vh:sizeOk (.seq (m6!).toArray):=by
  show(m6!).toArray.size<=sizeLine;rw[AN,HX,JU,CK];omega
 have hj:sIx items.size items.size hi<=da!:=c5u _ _ x_ hi;obtain⟨os,mv,pi,vg⟩:=id hs;have QS:s.TypeIs i8! "slice":=⟨os,mv,pi⟩;unfold getItem
 try with_reducible refine CC ?_
 first|refine AA ac_|skip
 refine AA (wpAny_sequenceKey ht.typeIs c! ?_);refine AA (CP (name:=t8!) ht.typeIs GL
  (BX GL ht.typeIs entry_tuple_getitem ?_ (args_tuple_getitem _ _)))
 show wpAny _ _ (Builtin.Tuple.tupleItemsOf i4_>>=_) _ _ s;refine AA (tupleItemsOf_ ht ?_);refine AA (wpAny_typeOf QS ?_);rw[AQ c!];refine AA (dI hs pl pu ?_);have QT:¬(t9_=true):=by
  intro q;rw[BH,BH]at q;have q1:t9!=0:=eq_of_beq q.1.1;have q2:sIx items.size items.size hi - sIx items.size 0 lo=da!:=eq_of_beq q.2;exact hw ⟨r!,r!⟩
 show wpAny _ _ (if t9_=true then _ else _) _ _ s;rw[AI QT,b4q]
 first
  |exact AA (m:=ja!) (DM ja_ vh)
  |exact AA (m:=ja!) (DM (AA (AC ja_)) vh)
  |exact AA (AA (m:=ja!) (DM (AC ja_) vh))
  |exact AA (AA (m:=ja!) (DM ja_ vh))
end
end HT
namespace L2
open PySem PySem.Spec PyProof.Rows
abbrev TO:=St->Hp->(Option Int->Hp->Prop)->Prop
nonrec def PO(X:Cx)(e:m7!)(t:TO):Prop:=
 ∀(J:l_) (s:Shared) (Z:St) (H:Hp) (Q:uc_),Inv X J Z H s->t Z H Q->
  wpAny e_ X.A (evalPart e X.env) (λu s'=>∃o H',Inv X J Z H' s'/\IsPart u o/\Q o H') X.xe s
nonrec def b9p:TO:=λ_ H Q=>Q none H
nonrec def d0t(t:TE):TO:=λZ H Q=>t Z H λx H1=>∃i,x=.int i/\Q (some i) H1
def nE{ns:D!}:∀{us:h_},Ce b8_ us->IntsAre us ns:=by
 induction ns with
 |nil=>intro us r;rw[FM]at r;cases r;exact .nil
 |cons n ns ih=>
  intro us r;rw[AH]at r;cases r with
  |cons r1 r2=>
   obtain⟨t,e⟩:=r1;subst e;exact .cons n t (ih r2)
section
variable{X:Cx}{e:Expr}{te:TE}{lo hi:Option Expr}{tl th:TO}{pos p2:Pos}
def c0t:PO X none b9p:=by intro J s Z H Q I h;rw[evalPart_none];exact AC ⟨none,H,I,.none,h⟩
def c0s(h:cv!):PO X ij! (d0t te):=by intro J s Z H Q I hw;rw[evalPart_some];refine Gn lW! λu s1 ⟨x,H1,I1,r1,q1⟩=>?_;obtain⟨i,rfl,q⟩:=q1;obtain⟨t,rfl⟩:=r1;exact⟨I_,H1,I1,.int i t,q⟩
nonrec def SlR(X:Cx)(r:jb!):Prop:=
 ∀(J:l_) (s:Shared) (Z:St) (H:Hp) (x:V) (v vl vu:Value) (lo hi:a7!) (sl:Addr) (Q:VK),Inv X J Z H s->Dm x v->s.heap.IsSliceOf sl vl vu .none->IsPart vl lo->IsPart vu hi->r x lo hi H Q->
  ∃T id,typeLookup eX_ "__getitem__"=pure (some eX!)/\s.TypeIs v T/\wpAny e_ X.A (getItem v i8!) aJ_ X.xe s
def SlR.or{r r':jb!}(h:SlR X r)(h':SlR X r'):SlR X (λx lo hi H Q=>r x lo hi H Q\/r' x lo hi H Q):=by
 intro J s Z H x v vl vu lo hi sl Q I rx hs pl pu q;rcases q with q|q
 .exact h J s Z H x v vl vu lo hi sl Q I rx hs pl pu q
 .exact h' J s Z H x v vl vu lo hi sl Q I rx hs pl pu q
nonrec def tSl(r:jb!)(te:TE)(tl th:TO):TE:=λZ H Q=>te Z H λx H1=>tl Z H1 λl H2=>th Z H2 λu H3=>r x l u H3 Q
def zJ{r:jb!}(hr:SlR X r)(he:cv!)(hl:PO X lo tl)(hu:PO X hi th):PE X (.Subscript e m8! pos) (tSl r te tl th):=by intro J s Z H Q I h;refine Subscript_ rR_;refine wpAny_Slice (Gn (hl J s1 Z H1 _ I1 q1) λvl s2 ⟨l,H2,I2,pl,q2⟩=>Gn (hu J s2 Z H2 _ I2 q2) λvu s3 ⟨u,H3,I3,pu,q3⟩=>?_);rw[evalPart_none];refine AC ?_;have I4:Inv X J Z H3 {s3 with heap:=s3.heap.push {cls:=.type "slice",data:=.fields #[vl,vu,.none]}}:=I3.kept (t':=s3.toks) λb ob q=>AG _ q;obtain⟨T,id,hT,ht,hg⟩:=hr J {s3 with heap:=s3.heap.push {cls:=.type "slice",data:=.fields #[vl,vu,.none]}} Z H3 x v vl vu l u s3.heap.objs.size Q I4 r1 (Heap.IsSliceOf.new ..) pl pu q3;show wpAny e_ X.A (subscriptTail e m8! v (.ref uh!)) aJ_ X.xe {s3 with heap:=s3.heap.push {cls:=.type "slice",data:=.fields #[vl,vu,.none]}};exact tail_any (ops:=[.ref uh!,v]) ht hT hg (by with_unfolding_all rfl)
nonrec def a1x(xs:k_)(lo hi:a7!):List V:=(xs.drop m8_).take m9!
def gP(xs:k_)(lo hi:a7!):(gA_).length<=i_:=by unfold a1x;rw[HX,JU];omega
nonrec def d6a(K:W.Frag):V->Option Int->Option Int->Hp->VK->Prop:=λx lo hi H Q=>∃a xs,x=.ref a/\Lj K H a xs/\
 ¬(HT.sIx xs.length 0 lo=0/\HT.sIx xs.length xs.length hi=i_)/\∀p,H p=none->Q b5_ (upd H p (.tup gA_))
def b2z:SlR X (d6a X.K):=by
 intro J s Z H x v vl vu lo hi sl Q I rx hs pl pu h;obtain⟨a,xs,rfl,L,hw,q⟩:=h;cases rx;obtain⟨its,r,ht,hz⟩:=I.tuple L;have ak:a7_=i_:=by rw[AN];exact r.length.symm
 refine⟨"tuple",_,GL.lookup,ht.typeIs,?_⟩;refine HT.getItem_tuple_cut ht hs pl pu (by rw[ak];exact hw) ?_ (by rw[ak];exact hz);rw[ak];refine⟨cA!,_,I.laid (t':=s.toks) (o:=.tup gA_) na_ x_ ?_,rfl,q _ gw!⟩;exact⟨uj!,_,uj_,IsTup.new _ _⟩
nonrec def c4g(K:W.Frag):R2:=λx y H Q=>∃a b xs ys,x=.ref a/\y=.ref b/\Lj K H a xs/\Lj K H b ys/\xs≠[]/\i_+M_<=sizeLine/\
 (ys=[]->Q ab_ H)/\(ys≠[]->∀p,H p=none->Q b5_ (upd H p (.tup fT_)))
def Ce.nil_iff{xs:k_}(r:fT!):us=[]↔xs=[]:=by
 cases r with
 |nil=>simp
 |cons _ _=>simp
def c1g:Md X eJ! (c4g X.K):=by intro J s Z H x y v u Q I rx ry h;obtain⟨a,b,xs,ys,rfl,rfl,ha,O,L,hz,q1,q2⟩:=h;cases rx;cases ry;obtain⟨its,r1,p1,_⟩:=I.tuple ha;obtain⟨gj,r2,p2,_⟩:=I.tuple O;refine HT.cat_tup p1 p2 (λz=>L (r1.nil_iff.mp z)) (λz=>⟨dT!,H,I,rfl,q1 (r2.nil_iff.mp z)⟩) (λz=>?_) (by rw[<-r1.length,<-r2.length];exact hz);refine⟨cA!,_,I.laid (t':=s.toks) (o:=.tup fT_) na_ x_ ?_,rfl,q2 (λw=>z (r2.nil_iff.mpr w)) _ gw!⟩;exact⟨by rw[AT];exact hz,_,r1.append r2,IsTup.new _ _⟩
end
end L2
namespace L2
open PySem PySem.Spec PyProof.Rows
nonrec def Ig(n:Nat)(i:Int):Option Nat:=if 0<=i then(if i<n then some i.toNat else none)else if -(n:Int)<=i then some (i+n).toNat else none
nonrec def Gf{α:Type}(xs:K_)(i:Int):Option α:=(Ig xs.length i).bind λj=>xs[j]?
def a8m{n:Nat}{i:Int}{j:Nat}(h:Ig n i=some j):seqIndex? i n=some j/\j<n/\-(n:Int)<=i/\i<n:=by
 unfold Ig at h;by_cases h0:0<=i
 .rw[AQ h0]at h;by_cases B:i<n
  .rw[AQ B]at h;have e:i.toNat=j:=BZ h;exact⟨by rw[seqIndex_of h0 B,e],r!,r!,B⟩
  .rw[AI B]at h;cases h
 .rw[AI h0]at h;by_cases B:-(n:Int)<=i
  .rw[AQ B]at h;have e:(i+n).toNat=j:=BZ h;exact⟨by rw[seqIndex_neg a! B,e],r!,B,r!⟩
  .rw[AI B]at h;cases h
def xB{α:Type}{xs:K_}{i:Int}{v:α}(h:Gf xs i=some v):∃j,seqIndex? i i_=some j/\xs[j]?=some v/\j<i_/\-jd!<=i/\i<i_:=by
 unfold Gf at h;cases e:Ig xs.length i with
 |none=>rw[e]at h;cases h
 |some j=>
  rw[e]at h;obtain⟨B,Y,h3,h4⟩:=a8m e;exact⟨j,B,h,Y,h3,h4⟩
nonrec def jK(b:Expr):Prop:=∀o i,subscripted b false o i=operate [o,i] (getItem o i)
nonrec def IxR(X:Cx)(r:R2):Prop:=
 ∀(value f8:Expr) (J:l_) (s:Shared) (Z:St) (H:Hp) (x y:V) (v u:Value) (Q:VK),Inv X J Z H s->Dm x v->Dm y u->r x y H Q->
  subscripted f8 false v u=operate [v,u] (getItem v u)->wpAny e_ X.A (subscriptTail value f8 v u) aJ_ X.xe s
nonrec def MtR(X:Cx)(id:String)(r:jd_):Prop:=
 ∀(J:l_) (s:Shared) (Z:St) (H:Hp) (x:V) (xs:k_) (v:Value) (us:h_) (Q:VK),Inv X J Z H s->Dm x v->Ce xs us->r x xs H Q->
  wpAny e_ X.A up_ aJ_ X.xe s
section
variable{X:Cx}{a b:Expr}{ta tb:TE}{pos:Pos}
def IxR.or{r r':R2}(h:je!)(h':IxR X r'):IxR X sy_:=by
 intro value f8 J s Z H x y v u Q I rx ry q hs;rcases q with q|q
 .exact h value f8 J s Z H x y v u Q I rx ry q hs
 .exact h' value f8 J s Z H x y v u Q I rx ry q hs
def b4z{r:R2}(hr:je!)(ha:a0!)(O:ct!)(hs:jK b):PE X nf_ iC!:=by intro J s Z H Q I h;exact Subscript_ (c9m ha O I h λv u s2 x y H2 I2 rx ry q=>hr a b J s2 Z H2 x y v u Q I2 rx ry q (hs _ _))
nonrec def d1o(K:W.Frag):R2:=λx y H Q=>∃p xs i v,x=.ref p/\y=.int i/\Jf K H p xs/\Gf xs i=some v/\Q v H
nonrec def d1m(K:W.Frag):R2:=λx y H Q=>∃p xs i v,x=.ref p/\y=.int i/\Lj K H p xs/\Gf xs i=some v/\Q v H
nonrec def d1n:R2:=λx y H Q=>∃z i c,x=.str z/\y=.int i/\dW_<=sizeLine/\Gf z.cps.toList i=some c/\Q gB_ H
def a8l:IxR X (d1o X.K):=by
 intro value f8 J s Z H x y v u Q I rx ry h hs;obtain⟨p,xs,i,z,rfl,rfl,hq,he,q⟩:=h;cases rx;obtain⟨t,rfl⟩:=ry;show"!T";obtain⟨j,B,Y,h3,h4,h5⟩:=xB he;obtain⟨w,ew,ao⟩:=r.get Y;have hl:=aC!;have hn:=eP;have fin:EP X J Z Q w s:=us_;by_cases h0:0<=i
 .have hj:i.toNat=j:=by
   rw[seqIndex_of h0 h5]at B;exact BZ B
  exact item_listR pl.isList h0 a! us! fin hs
 .have hj:(i+(a7_:Int)).toNat=j:=by
   rw[seqIndex_neg a! h4]at B;rw[AN,<-hl];exact BZ B
  exact subscriptTail_builtinR (x:=w) pl.isList.typeIs ut_
   (wpAny_getItem_list_neg (Q:=uu!) pl.isList a! uu_ a! us! ⟨rfl,fin⟩) hs
def c7x:IxR X (d1m X.K):=by
 intro value f8 J s Z H x y v u Q I rx ry h hs;obtain⟨p,xs,i,z,rfl,rfl,hq,he,q⟩:=h;cases rx;obtain⟨t,rfl⟩:=ry;obtain⟨its,r,pl,hz⟩:=I.tuple hq;obtain⟨j,B,Y,h3,h4,h5⟩:=xB he;obtain⟨w,ew,ao⟩:=r.get Y;have hl:=aC!;have hn:=eP;have fin:EP X J Z Q w s:=us_;exact subscriptTail_builtinR (x:=w) pl.typeIs slot_tuple_getitem.lookup
  (getItem_tuple (j:=j) (Q:=uu!) pl a! a! (by rw[AN,<-hl];exact B) (by simpa using ew) ⟨rfl,fin⟩) hs
def c7y:IxR X d1n:=by
 intro value f8 J s Z H x y v u Q I rx ry h hs;obtain⟨z,i,c,rfl,rfl,hz,he,q⟩:=h;obtain⟨t,rfl⟩:=rx;obtain⟨t',rfl⟩:=ry;obtain⟨j,B,Y,h3,h4,h5⟩:=xB he;have hl:z.cps.toList.length=dW_:=by simp[Str.length]
 rw[hl]at B h4 h5;have hn:=eP;exact tail_any (typeIs_str s z t) slot_str_getitem.lookup (getItem_str (c:=c) (by
  have e1:decide (i< -(2 ^ 63:Int))=false:=AW a!;have e2:decide (i>=2 ^ 63)=false:=AW a!;rw[e1,e2,Bool.or_false]) (by rw[B];simpa using Y) ⟨gC!,H,a0_,J_,q⟩) hs
nonrec def rIx(K:W.Frag):R2:=λx y H Q=>d1o K x y H Q\/d1m K x y H Q\/d1n x y H Q
def Ap:IxR X (rIx X.K):=a8l.or (c7x.or c7y)
def a4q(its:h_)(n j:Nat)(u:Value):Obj.mapSeq ux_ {cls:=.type "list",data:=.seq its.toArray n}={cls:=.type "list",data:=.seq (its.set j u).toArray n}:=by simp[Obj.mapSeq]
def Inv.lst{J:l_}{Z:St}{H:Hp}{s:Shared}{p:Addr}{xs:k_}(I:d!)(h:H p=some I!):
  ∃(its:h_) (n:Nat),Ce xs its/\s.heap.get? p=some {cls:=.type "list",data:=.seq its.toArray n}/\i_<=sizeLine:=by
 obtain⟨z,its,n,r,e⟩:=I.hok p _ h;exact⟨its,n,r,e,z⟩
def Inv.lstUpd{J:l_}{Z:St}{H:Hp}{s:Shared}{p:Addr}{xs ys:k_}{its its':h_}{n n':Nat}{f:Obj->Obj}(I:d!)(h:H p=some I!)
  (ho:s.heap.get? p=some {cls:=.type "list",data:=.seq its.toArray n})(hf:f {cls:=.type "list",data:=.seq its.toArray n}={cls:=.type "list",data:=.seq its'.toArray n'})(r:Ce ys its')(hz:jf!)(t:Nat):
  Inv X J Z (upd H p aU!) {s with heap:=s.heap.update p f,toks:=t}:=by
 have e:(s.heap.update p f).get? p=some {cls:=.type "list",data:=.seq its'.toArray n'}:=by
  rw[FY f ho (by rw[hf]<;>rfl),hf]
 refine I.write (x:=p) (e:=p) (by rw[h];trivial) aB_ (λb u O q=>(uA_).trans q) ⟨_,e⟩ ?_;exact⟨hz,its',n',r,e⟩
nonrec def d1j:V->V->V->Hp->l9!->Prop:=λo i v H Q=>∃p xs k j,o=.ref p/\i=.int k/\H p=some I!/\Ig xs.length k=some j/\Q uB!
def yC:b1w X d1j:=by
 intro J s Z H o i v ov iv u Q I ro ri rv h;obtain⟨p,xs,k,j,rfl,rfl,hp,hj,q⟩:=h;cases ro;obtain⟨t,rfl⟩:=ri;obtain⟨its,n,r,ho,hz⟩:=I.lst hp;obtain⟨B,Y,h3,h4⟩:=a8m hj;have hl:=aC!;have hn:=eP;have I':Inv X J Z uB! {s with heap:=s.heap.update p (Obj.mapSeq ux_)}:=
  I.lstUpd hp ho (a4q its n j u) (r.set rv j) (by rw[EF];exact hz) s.toks
 by_cases h0:0<=k
 .have hk:k.toNat=j:=by
   rw[seqIndex_of h0 h4]at B;exact BZ B
  exact W.ki_setAt ho h0 a! (by rw[AN,<-hl];exact h4) uD!
 .have hk:(k+(a7_:Int)).toNat=j:=by
   rw[seqIndex_neg a! h3]at B;rw[AN,<-hl];exact BZ B
  exact W.ki_setBack ho a! (by rw[AN,<-hl];exact h3) a! uD!
def sW(lo hi:a7!)(n:Nat):(ni_).1=((HT.sIx n 0 lo:Nat):Int)/\(ni_).2.1=((HT.sIx n n hi:Nat):Int)/\(ni_).2.2=1:=by
 refine⟨?_,?_,rfl⟩
 .cases lo with
  |none=>simp[sliceBounds,HT.sIx]
  |some i=>
   show"!s"
   .simp only[h,CF]<;>omega
   .simp only[h,BW]<;>omega
 .cases hi with
  |none=>simp[sliceBounds,HT.sIx]
  |some i=>
   show"!s"
   .simp only[h,CF]<;>omega
   .simp only[h,BW]<;>omega
def oK(its:h_)(lo hi:a7!):slicePick its.toArray lo hi none=((its.drop (HT.sIx its.length 0 lo)).take (HT.sIx its.length its.length hi - HT.sIx its.length 0 lo)).toArray:=by obtain⟨B,Y,h3⟩:=sW lo hi a7_;unfold slicePick;rw[B,Y,h3];simp only[sliceRange_one,pick_run,AN]<;>rfl
nonrec def d6b(K:W.Frag):V->Option Int->Option Int->Hp->VK->Prop:=λx lo hi H Q=>∃a xs,x=.ref a/\Jf K H a xs/\∀p,H p=none->Q b5_ (upd H p (.lst gA_))
def a6p:SlR X (d6b X.K):=by intro J s Z H x v vl vu lo hi sl Q I rx hs pl pu h;obtain⟨a,xs,rfl,L,q⟩:=h;cases rx;obtain⟨its,r,ht,hz⟩:=I.list L;have ak:=aC!;refine⟨"list",_,ut_,ht.isList.typeIs,?_⟩;refine wpAny_getItem_list_slice ht.isList hs pl pu .none c_ ?_ uu_;rw[oK,<-ak];refine⟨cA!,_,I.laid (t':=s.toks) (o:=.lst gA_) na_ x_ ?_,rfl,q _ gw!⟩;exact⟨uj!,_,0,uj_,dN_⟩
nonrec def Yx:V->Bool
 |.non=>true
 |.bl _=>true
 |.int _=>true
 |.str _=>true
 |_=>false
nonrec def eqV:V->V->Bool
 |.non,.non=>true
 |.bl a,.bl b=>a==b
 |.bl a,.int b=>uG!==b
 |.int a,.bl b=>a==uG_
 |.int a,.int b=>a==b
 |.str a,.str b=>a==b
 |_,_=>false
def c8k{A:Around}{s:Shared}{y x:V}{u v:Value}(ry:Dm y u)(rx:Dm x v)(fy:Yx y=true)(fx:Yx x=true):SeqAt.EqAt A s u v (eqV y x):=by
 cases y with
 |non=>
  cases ry;cases x with
  |non=>cases rx;exact SeqAt.EqAt.same _
  |bl b=>cases rx;exact SeqAt.EqAt.none_bool b
  |int b=>obtain⟨t,rfl⟩:=rx;exact SeqAt.EqAt.none_int b t
  |str b=>obtain⟨t,rfl⟩:=rx;exact SeqAt.EqAt.none_str b t
  |_=>exact absurd jg! BC
 |bl a=>
  cases ry;cases x with
  |non=>cases rx;exact SeqAt.EqAt.bool_none a
  |bl b=>cases rx;exact SeqAt.EqAt.bool_bool a b
  |int b=>obtain⟨t,rfl⟩:=rx;exact SeqAt.EqAt.bool_int a b t
  |str b=>obtain⟨t,rfl⟩:=rx;exact SeqAt.EqAt.bool_str a b t
  |_=>exact absurd jg! BC
 |int a=>
  obtain⟨t',rfl⟩:=ry;cases x with
  |non=>cases rx;exact SeqAt.EqAt.int_none a t'
  |bl b=>cases rx;exact SeqAt.EqAt.int_bool a t' b
  |int b=>obtain⟨t,rfl⟩:=rx;exact HU a t' b t
  |str b=>obtain⟨t,rfl⟩:=rx;exact SeqAt.EqAt.int_str a t' b t
  |_=>exact absurd jg! BC
 |str a=>
  obtain⟨t',rfl⟩:=ry;cases x with
  |non=>cases rx;exact SeqAt.EqAt.str_none a t'
  |bl b=>cases rx;exact SeqAt.EqAt.str_bool a t' b
  |int b=>obtain⟨t,rfl⟩:=rx;exact SeqAt.EqAt.str_int a t' b t
  |str b=>obtain⟨t,rfl⟩:=rx;exact SeqAt.EqAt.str_str a t' b t
  |_=>exact absurd jg! BC
 |_=>exact absurd (show false=true from fy) BC
nonrec def eqU(x:V)(u:Value):Bool:=match u with
 |.none=>eqV .non x
 |.bool b=>eqV bH_ x
 |.int i _=>eqV bd_ x
 |.str z _=>eqV (.str z) x
 |_=>false
def b7i{x y:V}{u:Value}(r:Dm y u)(f:Yx y=true):eqU x u=eqV y x:=by
 cases y with
 |non=>cases r;rfl
 |bl b=>cases r;rfl
 |int i=>obtain⟨t,rfl⟩:=r;rfl
 |str z=>obtain⟨t,rfl⟩:=r;rfl
 |_=>exact absurd (show false=true from f) BC
def xD{x:V}:∀{xs:k_} {us:h_},Ce xs us->xs.all Yx=true->us.any gD!=xs.any λy=>eqV y x
 |_,_,.nil,_=>rfl
 |y::xs,u::us,.cons r t,f=>by
  rw[FT,BH]at f;rw[ES,ES,b7i r f.1,xD t f.2]
def mG{A:Around}{s:Shared}{x:V}{v:Value}(rx:Dm x v)(fx:Yx x=true):∀{xs:k_} {us:h_},Ce xs us->xs.all Yx=true->∀u∈us,SeqAt.EqAt A s u v (eqU x u)
 |_,_,.nil,_=>λu hu=>by cases hu
 |y::xs,u::us,.cons r t,f=>λu' hu=>by
  rw[FT,BH]at f;rcases AE.mp hu with rfl|hu
  .rw[b7i r f.1];exact c8k r rx f.1 fx
  .exact mG rx fx t f.2 u' hu
nonrec def inV(x:V)(xs:k_):Bool:=xs.any λy=>eqV y x
nonrec def rIn(K:W.Frag)(neg:Bool):R2:=λx y H Q=>∃p xs,y=.ref p/\(Jf K H p xs\/Lj K H p xs)/\Yx x=true/\xs.all Yx=true/\Q (.bl (if neg then !inV x xs else inV x xs)) H
def b0r:Md X jg_ (rIn X.K false):=by
 intro J s Z H x y v u Q I rx ry h;obtain⟨p,xs,rfl,hq,fx,fs,q⟩:=h;cases ry;rcases hq with hq|hq
 .show"!T";refine SeqAt.in_listAt gD! pl.isList uK! e1_;rw[uK_,xD r fs];exact q
 .show"!~";refine SeqAt.in_tupleAt gD! pl uK! e1_;rw[uK_,xD r fs];exact q
def wY:Oq X a8! (λxs H Q=>∃p ys,xs=gD_/\(Jf X.K H p ys\/Lj X.K H p ys)/\∀l,H l=none->Q jh! jh_):=by
 intro J s Z H xs us Q I r h;obtain⟨p,ys,rfl,hq,q⟩:=h;obtain⟨u,rfl,rx⟩:=Uz r;cases rx;have fin:∀(its:h_),Ce ys its->M_<=sizeLine->∀(h':Heap) (c':Nat),(∀b o',s.heap.get? b=some o'->h'.get? b=some o')->
   h'.get? p!=some {cls:=.type "list",dict:=none,data:=.seq its.toArray c',slots:=#[]}->EP X J Z Q c5_ {s with heap:=h'}:=λits r' hz h' c' kp e=>
  ⟨cA!,_,I.laid (t':=s.toks) kp x_ (show Jz X.prog X.w _ h' _ aU! from⟨hz,its,c',r',e⟩),rfl,q _ gw!⟩
 rcases hq with hq|hq
 .obtain⟨its,r',pl,hz⟩:=I.list hq;have ak:=iM!;obtain⟨o,ho,hc,n,hd⟩:=pl.isList;exact call_list_seq p aB_ ho hc hd uM_ uN!
 .obtain⟨its,r',pl,hz⟩:=I.tuple hq;have ak:=iM!;obtain⟨o,ho,hc,n,hd⟩:=pl;exact call_list_seq p gE! ho hc hd uM_ uN!
nonrec def tyV(K:W.Frag)(T:String)(x:V)(H:Hp):Prop:=match x with
 |.str _=>T="str"
 |.int _=>T="int"
 |.ref p=>(T="list"/\∃xs,Jf K H p xs)\/(T="tuple"/\∃o,K.lookup p=some o/\o.cls=.type "tuple"/\o.dict=none)\/
   (T="dict"/\((∃kvs,H p=some dQ_)\/∃kvs,H p=some ji!))\/(T="set"/\∃S n,H p=some (.set S n))
 |_=>False
def b2p{J:l_}{Z:St}{H:Hp}{s:Shared}{T:String}{x:V}{v:Value}(I:d!)(r:Dm x v)(ty:tyV X.K T x H):
  s.TypeIs v T/\∀a,v=.ref a->∃ob,s.heap.get? a=some ob/\ob.dict=none:=by
 cases x with
 |str z=>
  show"#*";cases (show T="str" from ty);exact⟨typeIs_str s z t,uP!⟩
 |int i=>
  show"#*";cases (show T="int" from ty);exact⟨typeIs_int s i t,uP!⟩
 |ref p=>
  cases r;rcases ty with⟨rfl,xs,hq⟩|⟨rfl,o,hk,hc,hd⟩|⟨rfl,hk⟩|⟨rfl,S,n,hk⟩
  .obtain⟨its,_,pl,_⟩:=I.list hq;refine⟨pl.isList.typeIs,λa e=>?_⟩;cases e;obtain⟨o,n,e,c,hd,_⟩:=pl;exact⟨o,e,hd⟩
  .refine⟨⟨o,I.kIn p o hk,hc⟩,λa e=>?_⟩;cases e;exact⟨o,I.kIn _ o hk,hd⟩
  .have z:∃o,s.heap.get? p=some o/\hU_:=by
    rcases hk with⟨kvs,hk⟩|⟨kvs,hk⟩
    .show"!{"
    .show"!{"
   obtain⟨o,e,ex⟩:=z;refine uS!;cases e2;exact uS_
  .obtain⟨o,_,_,_,e,ex,_⟩:=I.hok p _ hk;refine uS!;cases e2;exact uS_
 |_=>exact False.elim ty
nonrec def d5v(K:W.Frag)(T:String)(r:jd_)(to:TE):TE:=λZ H Q=>to Z H λx H1=>tyV K T x H1/\r x [] H1 Q
nonrec def tBM(K:W.Frag)(T:String)(r:jd_)(to:TE)(t:TA):TE:=λZ H Q=>to Z H λx H1=>tyV K T x H1/\t Z H1 λxs H2=>r x xs H2 Q
variable{o e:Expr}{es:List Expr}{to:TE}{t:TA}{name:Str}{ag ab:Pos}{T id:String}{r:V->List V->Hp->VK->Prop}
def c6p(pa:PlainAttrs T)(slot:uT!)(xo:uT_)(hm:MtR X id r)(ho:ma_)
  (df:uU!:=by rfl)(dh:cA_:=by rfl):PE X (.Call uV! [] [] ab) (d5v X.K T r to):=by
 show"!I";refine wpAny_Call_method0_late df dh uV_;obtain⟨B,Y⟩:=b2p I1 r1 ty;exact⟨T,id,pa,slot,xo,B,Y,EU rfl (PySem.evalArgs_none (hm J s1 Z H1 x [] v [] Q I1 r1 .nil q1))⟩
def qX(pa:PlainAttrs T)(slot:uT!)(xo:uT_)(hm:MtR X id r)(ho:ma_)(ha:eV!)
  (df:uU!:=by rfl)
  (gk:((backTo ab ty!).all cB!&&(cB_).all cC!
   &&decide ((aK_).length+(dX_).length+e2!<30))=true:=by rfl)
  (dh:cA_:=by rfl) (hs:al_:=by rfl) (gn:(uW_).any b!=false:=by rfl):
  PE X (.Call uV! aK_ [] ab) (tBM X.K T r to t):=by
 show"!I";refine wpAny_Call_method_late df gk dh rfl uV_;obtain⟨B,Y⟩:=b2p I1 r1 ty;refine⟨T,id,pa,slot,xo,B,Y,?_⟩;have hA:=ha ab J s1 Z H1 _ I1 q1;rw[hs]at hA ⊢;refine EU (by show(false||(uW_).any b!)=false;rw[gn]<;>rfl) (GA ?_);exact Gn hA λus s2 ⟨vs,H2,I2,r2,q2⟩=>hm J s2 Z H2 x vs v us Q I2 r1 r2 q2
end
end L2
namespace L2
open PySem PySem.Spec PyProof.Rows
nonrec def MtM(X:Cx)(id:String)(r:jd_):Prop:=
 ∀(J:l_) (s:Shared) (Z:St) (H:Hp) (x:V) (xs:k_) (v:Value) (us:h_) (Q:VK),Inv X J Z H s->Dm x v->Ce xs us->r x xs H Q->
  wpAny e_ X.A up_ aJ_ X.xe s
def Ce.one:∀{x:V} {us:h_},Ce [x] us->∃u,us=[u]/\Dm x u
 |_,_,.cons r .nil=>lx!
def Ce.zero:∀{us:h_},Ce [] us->us=[]
 |_,.nil=>rfl
def Ce.dropLast{xs:k_}{us:h_}(h:fT!):Ce xs.dropLast us.dropLast:=by
 induction h with
 |nil=>exact .nil
 |cons r t ih=>
  cases t with
  |nil=>exact .nil
  |cons q t'=>exact .cons r ih
def Ce.rep{xs:k_}(h:fT!):∀k:Nat,Ce (uX_).flatten (List.replicate k us).flatten
 |0=>.nil
 |k+1=>by
  rw[EE,EE,FS,FS];exact Ce.append h (Ce.rep h k)
def a5k{α:Type}(l:K_):l.eraseIdx (P! - 1)=l.dropLast:=by
 induction l with
 |nil=>rfl
 |cons a r ih=>
  cases r with
  |nil=>rfl
  |cons b r=>
   have e:(a::b::r).length - 1=((b::r).length - 1)+1:=by
    have B:(a::b::r).length=aC!+2:=rfl;have Y:(b::r).length=aC!+1:=rfl;omega
   rw[e,List.eraseIdx_cons_succ,ih]
   all_goals rfl
def rX(its:h_):∀(k:Nat) (acc:h_),
  List.foldl nm! acc.toArray (List.replicate k aQ_)=(acc++(u0!).flatten).toArray
 |0,acc=>by simp
 |k+1,acc=>by
  have e:acc.toArray++aQ_=(nm_).toArray:=by simp
  have e2:nm_++(u0!).flatten=acc++(List.replicate Q! its).flatten:=by
   rw[EE,FS,CQ]
  rw[<-e2,<-rX its k nm_,<-e,EE,IK]
section
variable{X:Cx}{J:List (Addr×Obj)}{Z:St}{H:Hp}{s:Shared}{l b:Addr}{xs ys zs:List V}
def Inv.lset{its its':h_}{n:Nat}{f:Array Value->Array Value}{t':Nat}(I:d!)(hH:H l=some I!)
  (e:s.heap.get? l=some {cls:=.type "list",data:=.seq its.toArray n})(hf:f aQ_=its'.toArray)(hv:Ce ys its')(hz:jf!):
  Inv X J Z jh_ {s with heap:=s.heap.update l u2!,toks:=t'}:=by
 have q:=PySem.IsL.update e f;rw[hf]at q;refine I.write (x:=l) (e:=l) (by rw[hH];exact trivial) aB_ (λb' u O hu=>(CT s.heap u2! (AK O)).trans hu) ⟨_,q⟩ ?_;exact⟨hz,its',_,hv,q⟩
def Inv.lnew{its:h_}{t':Nat}(I:d!)(hv:Ce ys its)(hz:jf!):
  Inv X J Z (upd H s.heap.objs.size aU!) {s with heap:=s.heap.push {cls:=.type "list",data:=.seq aQ_},toks:=t'}:=
 I.laid u4_ x_ ⟨hz,its,0,hv,dN_⟩
def Inv.fresh(I:d!):H p!=none:=I.hok.fresh x_
def Inv.lstM(I:d!)(hH:H l=some I!):i_<=sizeLine/\∃(its:h_) (n:Nat),Ce xs its/\i_=e2_/\s.heap.get? l=some {cls:=.type "list",data:=.seq its.toArray n}:=by obtain⟨z,its,n,r,e⟩:=I.hok l _ hH;exact⟨z,its,n,r,aC!,e⟩
def zT{n:Nat}(h:no!):Builtin.List.listTooLong n=false:=by unfold Builtin.List.listTooLong;exact AW a!
end
section
variable{X:Cx}
nonrec def c0e:V->List V->Hp->VK->Prop:=λx vs H Q=>∃l xs y,x=.ref l/\vs=[y]/\H l=some I!/\i_<sizeLine/\Q .non (upd H l (.lst e3!))
def rE:MtM X "list.append" c0e:=by intro J s Z H x vs v us Q I rx rv h;obtain⟨l,xs,y,rfl,rfl,hH,hz,q⟩:=h;cases rx;obtain⟨u,rfl,ru⟩:=rv.one;obtain⟨z,its,n,r,hl,e⟩:=I.lstM hH;refine JL F.slot_list_append dc_ F.entry_list_append (F.args_list_append_2 _ _) (PySem.list_append l its.toArray n u no_) e3_;refine⟨.non,_,I.lset (its':=its++[u]) hH e c_ (r.append np!) ?_,rfl,q⟩;rw[AT,CG];omega
nonrec def c0d:V->List V->Hp->VK->Prop:=λx vs H Q=>∃l b xs zs,x=.ref l/\vs=[.ref b]/\H l=some I!/\H b=some (.lst zs)/\i_+zs.length<=sizeLine/\Q .non (upd H l u5_)
def b1b:MtM X "list.extend" c0d:=by
 intro J s Z H x vs v us Q I rx rv h;obtain⟨l,b,xs,zs,rfl,rfl,hH,hB,hz,q⟩:=h;cases rx;obtain⟨u,rfl,ru⟩:=rv.one;cases ru;obtain⟨z,its,n,r,hl,e⟩:=I.lstM hH;obtain⟨z2,gj,n2,r2,XS,e2⟩:=I.lstM hB;have hsz:a7_+u6!<=sizeLine:=by rw[AN,AN];omega
 have xp:¬(! mD_&&Builtin.List.listTooLong (a7_+u6!))=true:=by
  rw[zT hsz,IV];exact BC
 refine JL F.slot_list_extend dc_ F.entry_list_extend (F.args_list_extend_2 _ _)
  (AutoSeq1.list_extend_list_list_0 l its.toArray n b gj.toArray n2 xp no_ a!) ⟨e,e2,?_⟩
 refine⟨.non,_,I.lset (its':=its++gj) hH e c_ (r.append r2) ?_,rfl,q⟩;rw[AT];omega
nonrec def d6d:V->List V->Hp->VK->Prop:=λx vs H Q=>∃l xs y,x=.ref l/\vs=[]/\H l=some I!/\xs[i_ - 1]?=some y/\Q y (upd H l (.lst xs.dropLast))
def c7h:MtM X "list.pop" d6d:=by
 intro J s Z H x vs v us Q I rx rv h;obtain⟨l,xs,y,rfl,rfl,hH,hy,q⟩:=h;cases rx;have QU:=rv.zero;subst QU;obtain⟨z,its,n,r,hl,e⟩:=I.lstM hH;obtain⟨u,hu,ru⟩:=r.get hy;have xq:aQ_[a7_ - 1]?=some u:=by
  show aQ_[e2_ - 1]?=some u;rw[<-ET,<-hl];exact hu
 refine JL F.slot_list_pop dc_ F.entry_list_pop (F.args_list_pop_1 _) (MeetsSeq.list_pop_last l its.toArray n u xq no_) e3_;refine⟨y,_,I.lset (its':=its.dropLast) hH e ?_ r.dropLast ?_,ru,q⟩
 .show its.toArray.eraseIdxIfInBounds (a7_ - 1)=its.dropLast.toArray;rw[AN,List.eraseIdxIfInBounds_toArray,a5k]
 .rw[List.length_dropLast];omega
nonrec def d6c:R2:=λx y H Q=>∃l k xs,x=.ref l/\y=.int k/\H l=some I!/\-(2 ^ 63)<=k/\k<2 ^ 63/\i_*k.toNat<=sizeLine/\
 ∀p,H p=none->Q b5_ (upd H p (.lst (List.replicate k.toNat xs).flatten))
def c1t{α:Type}(xs:K_)(k:Nat):(uX_).flatten.length=k*i_:=by
 induction k with
 |zero=>simp
 |succ k ih=>rw[EE,FS,AT,ih,Nat.succ_mul,Nat.add_comm]
def c6q:Md X mt! d6c:=by
 intro J s Z H x y v u Q I rx ry h;obtain⟨l,k,xs,rfl,rfl,hH,B,Y,hz,q⟩:=h;cases rx;obtain⟨t,rfl⟩:=ry;obtain⟨z,its,n,r,hl,e⟩:=I.lstM hH;have ak:a7_*k.toNat<=sizeLine:=by rw[AN,<-hl];exact hz
 have QV:¬a7_*k.toNat>nq! / 8:=by
  have:(sizeLine:Nat)<=nq! / 8:=by decide
  omega
 have xr:¬(!Builtin.List.listFitsIndex k)=true:=by
  rw[fitsIndex_both B Y];exact BC
 have xp:¬Builtin.List.listTooLong (a7_*k.toNat)=true:=by
  rw[zT ak];exact BC
 have pj:List.foldl nm! #[] (List.replicate (if mD_=true then 0 else k.toNat) aQ_)=(List.replicate k.toNat its).flatten.toArray:=by
  have f0:∀m:Nat,List.foldl nm! #[] (List.replicate m aQ_)=(List.replicate m its).flatten.toArray:=λm=>by
   have:=rX its m [];rw[CZ]at this;exact this
  rw[f0];cases its with
  |nil=>simp
  |cons a r'=>rw[Z!]
 refine wpAny_binaryOp_repeat_ref (T:="list") (U:="int") c! dc_ (λs'=>typeIs_int s' k t) noFill_list_mul F.fills_int_mul F.slot_int_rmul repeat_list F.slot_int_index.lookup
  (JL F.slot_int_rmul (typeIs_int s k t) F.entry_int_rmul (F.args_int_rmul_2 _ _) (int___rmul___int_list k t l its.toArray n)
   ⟨e,rfl,dc_,JL F.slot_list_mul dc_ F.entry_list_mul (F.args_list_mul_2 _ _) (AutoListH.list___mul___list_int_3 l its.toArray n k t xr QV xp) e3_⟩)
 rw[pj];exact⟨.ref _,_,I.lnew (t':=s.toks) (r.rep k.toNat) (by rw[c1t,Nat.mul_comm];exact hz),rfl,q _ I.fresh⟩
end
end L2
namespace L2
open PySem PySem.Spec PyProof.Rows
section
variable{κ:Type} [DecidableEq κ]
nonrec def aM(kvs:gm!)(k:κ):Option V:=(kvs.find? λkv=>decide (kv.1=k)).map A_
def b2n{p:κ×V}{r:gm!}{k:κ}(e:p.1=k):aM (p::r) k=some p.2:=by simp[aM,EH,e]
def b2o{p:κ×V}{r:gm!}{k:κ}(e:¬p.1=k):aM (p::r) k=aM r k:=by simp[aM,EH,e]
def cW.isSome_eq{o:Option V}{u:mP_}(r:cW o u):o.isSome=u.isSome:=by
 cases o with
 |none=>cases u with
  |none=>rfl
  |some _=>exact(iQ!).elim
 |some _=>cases u with
  |none=>exact(iQ!).elim
  |some _=>rfl
def KV.val{kvs:gm!}{vs:List lx_}(r:KV kvs vs)(k:κ):cW (aM kvs k) (valueAt vs k):=by
 unfold KV at r
 induction r with
 |nil=>exact iS!
 |@cons p q ps qs h t ih=>
  obtain⟨B,Y⟩:=h;by_cases e:p.1=k
  .have e':q.1=k:=B.symm.trans e;have b:valueAt (q::qs) k=some q.2:=by simp[valueAt,EH,e']
   rw[b2n e,b];exact Y
  .have e':¬q.1=k:=λz=>e (B.trans z);have b:valueAt (q::qs) k=valueAt qs k:=by simp[valueAt,EH,e']
   rw[b2o e,b];exact ih
end
def b6o{P:Program}{w:World}{k:Key}{u:Value}(r:Dm (kV k) u):(br_).is k u=true:=by
 cases k with
 |inl i=>obtain⟨t,e⟩:=ta!;subst e;exact a0c P w i t
 |inr x=>obtain⟨t,e⟩:=ta_;subst e;exact Vw P w x t
def eS{P:Program}{w:World}:∀{ks:List Key} {us:h_},Ce nq_ us->ItemsAre br_ ks us
 |[],_,r=>by rw[FM]at r;cases r;exact .nil
 |k::ks,_,r=>by
  rw[AH]at r;cases r with
  |cons h t=>exact .cons (b6o h) (eS t)
abbrev KT(H:Hp):List (List Key×V)->List lz!->Prop:=Paired λp q=>p.1=q.1/\H q.2.1=some qB_/\Dm p.2 q.2.2
section
variable{P:Program}{w:World}{H:Hp}{h:Heap}{a:Addr}
def d1i{u:HO}(ok:bs_)(e:Rd H a u):Jz P w H h a u:=e.ok ok
def vR{ks:List Key}(ok:bs_)(e:H a=some (.tup nq_)):(fU!).is h ks a:=by obtain⟨_,its,r,o,B,Y,n,h3⟩:=(show Jz P w H h a (.tup nq_)from ok a _ e);exact⟨o,aQ_,n,B,Y,h3,by simpa using eS r⟩
def d3h{kvs:hT_}(ok:bs_)(e:Rd H a ji!):aB!<=sizeLine/\dD!=false/\
  ∃xs,KT H kvs xs/\h.DictOfH fU! a xs:=by
 obtain⟨z,y,xs,r,o,es,ep,B,Y,h3,h4,h5⟩:=(show Jz P w H h a ji! from d1i ok e);refine⟨z,y,xs,r,o,es,ep,B,Y,h3,h4,aU_,h5⟩;have all:∀{l:hT_} {m:List lz!},KT H l m->∀x∈m,(fU!).is h x.1 x.2.1:=by
  intro l m q
  induction q with
  |nil=>intro x L;exact nomatch L
  |@cons p q ps qs hq t ih=>
   intro x L;rcases AE.mp L with e|L
   .subst e;exact vR ok (by rw[<-hq.1];exact hq.2.1)
   .exact ih x L
 exact all r x L
def nO{kvs:hT_}(ok:bs_)(e:H a=some ji!):aB!<=sizeLine/\dD!=false/\
  ∃xs,KT H kvs xs/\h.DictOfH fU! a xs:=d3h ok (.inl e)
end
section
variable{X:Cx}{J:List (Addr×Obj)}{Z:St}{H:Hp}{s:Shared}{a:Addr}{y v:V}{u r:Value}{o:Option V}{A:Around}{E:Value->Shared->Prop}
def Inv.big(I:d!):sysModules<p!:=by have h:mainGlobals<p!:=(I.mod.glob.keeps I.bk).lt;exact Nat.lt_trans c! h
def c3c{h':Heap}{t':Nat}{ob:HO}(I:d!)(mu:Mut (H a))(hs:va!)(he:∃q,h'.get? a=some q)(new:Jz X.prog X.w (upd H a ob) h' a ob):
  Inv X J Z (upd H a ob) {s with heap:=h',toks:=t'}:=
 I.write (x:=a) (e:=a) mu aB_ (λb q O z=>(hs.2 b O).trans z) he new
end
nonrec def d3t(i:Expr):Prop:=∀ov iv,subscripted i false ov iv=operate [ov,iv] (getItem ov iv)
def b9q{prog:Program}{w:World}{A:Around}{E:p_}{s:Shared}{value:Expr}{pos:Pos}{T id:String}{Q:p_}
  (hl:typeLookup eX_ "__getitem__"=pure (some eX!))(hs:d3t f8)
  (h:wpAny n_ A (eval value env) (λo aj=>wpAny n_ A (eval f8 env) (λi al=>al.TypeIs o T/\wpAny n_ A (getItem o i) Q E al) E aj) E s):
  wpAny n_ A (eval (.Subscript value f8 pos) env) Q E s:=by
 refine Subscript_ (DF h (λo aj h₁=>DF h₁ (λi al rc=>?_) λ_ _ x=>x) λ_ _ x=>x);obtain⟨hT,rc⟩:=rc;unfold subscriptTail;refine AA ?_;rw[getitemInPython_of_ne hT.not_modules];refine AA (HL hT hl ?_);have fin:wpAny n_ A (subscripted f8 false o i) (λr dt=>wpAny n_ A (letTemporaryGo value o r>>=λ_=>pure r) Q E dt) E al:=by
  rw[hs o i];exact wpAny_operating (DF rc (λr dt vj=>AA (wpAny_letTemporaryGo (AC vj))) λ_ _ x=>x)
 first
  |exact AC jn!
  |exact AA (AC jn!)
  |exact AA fin
structure M1(X:Cx)(o:Expr)(m:Str)(ag:Pos)(e:Expr)(ab:Pos):Prop where
 base:attributeBase o m X.env c3_=eval o X.env
 few:((jn_).all cB!&&(cB_).all cC!
  &&decide (([e]:List Expr).length+(dX_).length+e2!<30))=true
 line:nk_=true
 trees:backTo ab vc_=[eT_]
structure M2(X:Cx)(o:Expr)(m:Str)(ag:Pos)(e f:Expr)(ab:Pos):Prop where
 base:attributeBase o m X.env c3_=eval o X.env
 few:((backTo ab vd!).all cB!&&(cB_).all cC!
  &&decide (([e,f]:List Expr).length+(dX_).length+e2!<30))=true
 line:nk_=true
 trees:backTo ab vd!=[eT_,(false,eval f X.env)]
end L2
namespace Att
open PySem PySem.W PySem.Calls PyProof.Rows
def iE{P:Params}{h:Heap}:∀(ns:D!) (vs:h_),WellAll P h vs vd_->IntsAre vs ns:=by
 intro ns
 induction ns with
 |nil=>
  intro vs w;rw[FM]at w;cases w;exact .nil
 |cons n ns ih=>
  intro vs w;rw[AH]at w;cases w with
  |cons a b=>
   cases a;exact .cons _ _ (ih _ b)
def a9y{l:OpenLaw}{n:Nat}(hn:jp!){P:Params}{h:Heap}{args:List WData}
  (vk:l.row.toRowW.claim.pre args=true)(xt:WellAll P h xu args):
  ∃a vs ns,xu=[Value.ref a]/\args=[WData.list vd_]/\h.get? a=some {cls:=.type "list",data:=.seq b8!}/\IntsAre vs ns/\cx!<=n:=by
 have QW:WShape.hasAll [] args [.list .int]=true:=(vf!).1;have hc:l.pre.holds [] {args:=args}=true:=(vf!).2;obtain⟨d,r,rfl,B,Y⟩:=hasAllW_cons QW;obtain rfl:=hasAllW_nil Y;obtain⟨xs,rfl,h3⟩:=hasW_list B;obtain⟨ns,rfl⟩:=items_int h3;have ak:cx!<=n:=by
  unfold OpenLaw.pre at hc;have h4:(WTm.not (.lt (.lit (.int (n:Int))) (.len (.arg 0)))).holds [] {args:=[.list jq_]}=true:=by
   have h4:=(holds_andW hc).1;rw[hn]at h4;exact h4
  have h5:=condW_of h4 (w_not (w_lt w_lit (w_len_list (w_arg rfl))));rw[AU]at h5;refine Nat.le_of_not_lt λq=>?_;have q':(n:Int)<((cx!:Nat):Int):=by omega
  first
   |(rw[BK q']at h5;exact absurd h5 c!)
   |(simp at h5;omega)
 cases xt with
 |cons w1 w2=>
  cases w2;cases w1 with
  |list ho gq=>exact⟨_,_,ns,rfl,rfl,ho,iE ns _ gq,ak⟩
def b0j(l:OpenLaw)(args:List WData):l.row.toRowW.claim.post args gG! args=true:=
 postW_of (r:=l.row.toRowW) (X:=(true==true))
  (show WShape.has [] gG! .bool=true by first|rfl|decide|simp[WShape.has,WShape.arms,WShape.armsAll])
  (show(WTm.eq .res (.lit gG!)).value [] {args:=args,res:=some gG!,after:=args}=some (.bool (true==true))from w_eq_bool (w_res rfl) w_lit) rfl
def a2f{l:OpenLaw}{n:Nat}{XP:ns_}{YP:nt!}{d:DefRec}
  (hn:jp!)(rf:nt_)
  (call:∀(w:World) (s₀ aj:Shared) (mg mb:C!) (fa:Addr) (o:Obj) (pm cd bo:Value) (a:Addr) (vs:h_) (ns:D!),
   Ground q xv [] XP w s₀ mg mb aj.heap->YP w aj.heap->
   aj.heap.get? fa=some o->o.data=.func (docDef d.name d.params d.body d.scope pm cd bo)->aj.heap.CodeRec cd d.name->mg d.name=some e6_->
   aj.heap.get? a=some {cls:=.type "list",data:=.seq b8!}->IntsAre vs ns->cx!<=n->aj.gens=#[]->
   codeAny (model l.prog w) callerA nu_ nv! aj):
  WalkO q xv XP YP l.row.toRowW d [] nv_:=by
 intro w s₀ aj mg mb G vm fa o pm cd bo dV kV ho hd bv hD j0 hg args xu as vk XT XU xt XV;obtain rfl:dV=.none:=Dflts.none hD rf;obtain rfl:kV=.none:=Dflts.noKw hD;obtain⟨a,vs,ns,rfl,rfl,xw,hints,ak⟩:=a9y hn vk xt;refine enter_call (JH (call w s₀ aj mg mb fa o pm cd bo a vs ns G vm ho (fd_plain hd) bv j0 xw hints ak hg) λr s' hq=>?_);obtain⟨rfl,Y,h3,h4⟩:=hq;exact⟨.inl ⟨nw!,nw!,[],rfl,eS!,nw!,b0j l _,λ_=>⟨jr_,λ_ hm=>(nomatch hm)⟩⟩,Y,h3,h4⟩
section
variable{prog:Program}{w:World}{A:Around}{E:Value->Shared->Prop}{s:Shared}{K:Frag}
end
end Att
namespace L2
open PySem PySem.Spec PyProof.Rows
def qC:∀{vs:h_} {ns:D!},IntsAre vs ns->Ce b8_ vs
 |_,_,.nil=>.nil
 |_,_,.cons n t h=>.cons nw_ (qC h)
nonrec def c3q(H:Hp):Prop:=∀b,H b=none\/∃o xs,H b=some (.frz o I!)
def b6g{P:Program}{w:World}{K:W.Frag}{mg mb:C!}{CX:CXT}{k:Nat}{a:Addr}{fd:FuncData}{x:Str}{sp:Sp}{aj:Shared}{vs:h_}{ns:D!}
  (KX:K.In aj.heap)(vn:aj.heap.Ns mainGlobals mg)(O:aj.heap.Ns builtinsNs mb)(QX:∀x:Str,x≠"__name__"->mb x=bootBuiltins x)(QY:aj.heap.NoLimit)(hg:aj.gens=#[])
  (ha:aj.heap.get? a=some {cls:=.type "list",data:=.seq b8!})(hi:IntsAre vs ns)(hl:sU!)(hr:nx!)
  (F:∀base:Heap,K.In base->base.Ns mainGlobals mg->Km P w K mg base CX k fa fd [x] sp)(QZ:∀(s:Shared) (u:Value),BindsTo s fd js! [(x,u)])
  (jc:∀H:Hp,c3q H->Jf K H a b8_->sp bh_ H js_ λ_ _ _=>False)
  (rg:∀H e s',CX [] H aj jt! e s'->False):
  codeAny L! callerA nu_ nv! aj:=by
 have rv:=qC hi;have RA:=hi.length;have LU:∀H:Hp,c3q H->Jf K H a b8_->cX P w H aj.heap->(∀b,H b≠none->b=a)->(H a≠none->K.lookup a=none)->
   codeAny L! callerA nu_ nv! aj:=by
  intro H hO hS hok hA hK;have LV:∀{b:Addr} {o:Obj},aj.heap.get? b=some o->H b=none->(gG_).get? b=some o:=λe n=>b7a e n;have q9:∀{b:Addr} {o:Obj} {es:bM!} {ep:Nat},aj.heap.get? b=some o->o.data=.dict es ep->H b=none:=λ{b o es ep} e d=>by
   cases q:H b with
   |none=>rfl
   |some u=>
    have e':b=a:=hA b b9_;subst e';rw[ha]at e;cases e;have d':Data.seq vs.toArray _=Data.dict es ep:=d;cases d'
  have vo:∀{b:Addr} {m:C!},aj.heap.Ns b m->(gG_).Ns b m:=λ{b m} ⟨o,es,ep,e,d,r⟩=>⟨o,es,ep,LV e (q9 e d),d,r⟩;have LW:K.In gG_:=λb o e=>LV (KX b o e) (by
   cases q:H b with
   |none=>rfl
   |some u=>
    have e':b=a:=hA b b9_;subst e';rw[hK b9_]at e;cases e)
  have hM:Mod K mg gG_:=⟨LW,vo vn,⟨mb,vo O,QX⟩,let⟨mc,B,Y⟩:=QY;⟨mc,vo B,Y⟩⟩;have e0:oG P w K mg gG_ callerA [] aj H:=⟨rfl,hM,λb o e=>c1k e,HC (b1k _ _),trivial,λb O=>absurd (show b∈tN! from O) c_,hok,.of_eq hg⟩;refine JH ((F _ LW (vo vn)).run callerA [] aj H nu! bh_ bh_ _ _ hr e0 (QZ aj ab_) tC! (jc H hO hS)) λr s' h=>?_;cases r with
  |error e=>exact(rg H e s' h).elim
  |ok fl=>
   cases fl with
   |next=>exact False.elim h
   |brk=>exact False.elim h
   |cont=>exact False.elim h
   |ret u=>
    obtain⟨v,H',os,bare,un,RB,r',q⟩:=h;have q':v=.bl true:=q;subst q';obtain rfl:u=Value.bool true:=r';refine⟨rfl,OldK.of_keep λb o e=>?_,os,bare⟩;cases q:H b with
    |none=>exact un.keep b o e q (by intro z;exact absurd tM_ c_) c_
    |some u=>
     rcases hO b with z|⟨ob,xs,z⟩
     .rw[q]at z;cases z
     .have z2:=un.frzs b ob _ z;obtain⟨e1,_⟩:=hok b _ z;obtain⟨e2,_⟩:=RB b _ z2;rw[e]at e1;cases e1;exact e2
 cases hk:K.lookup a with
 |some o=>
  have e:=KX a o hk;rw[ha]at e;cases e;refine LU (λ_=>none) (λ_=>.inl rfl) (.inr ⟨_,b8!,_,hk,rfl,rfl,rfl,by rw[AN,RA];exact hl,by simpa using rv⟩) (λb u z=>by have z':(none:Option HO)=some u:=z;cases z') (λb z=>absurd rfl z) λz=>absurd rfl z
 |none=>
  refine LU (λb=>if b=a then some (.frz {cls:=.type "list",data:=.seq b8!} (.lst b8_))else none) (λb=>?_) (.inl (.inr ⟨{cls:=.type "list",data:=.seq b8!},j!⟩)) (λb u z=>?_) (λb z=>?_) λ_=>hk
  .by_cases O:b=a
   .exact .inr ⟨_,_,AQ O⟩
   .exact .inl (AI O)
  .by_cases O:b=a
   .have z':=(AQ O).symm.trans z;cases z';subst O;exact⟨ha,vj!,vs,_,rv,ha⟩
   .have z':=(AI O).symm.trans z;cases z'
  .by_cases O:b=a
   .exact O
   .exact absurd (AI O) z
end L2
namespace L2
open PySem PySem.Spec PyProof.Rows
def b9f{l:W.OpenLaw}{n k:Nat}{XP:ns_}{YP:nt!}{d:DefRec}{K:vk!}{CX:World->CXT}{sp:World->Sp}{x:Str}
  (hn:jp!)(ig:no!)(rf:nt_)(hr:nx!)
  (hY:vk_)
  (F:∀(w:World) (mg:C!) (fa:Addr) (h:Heap),(bM_).In h->h.Ns mainGlobals mg->mg d.name=some e6_->
   ∃fd:FuncData,vl!/\
    ∀base:Heap,(bM_).In base->base.Ns mainGlobals mg->Km l.prog w bM_ mg base (CX w) k fa fd [x] (sp w))
  (jc:∀(w:World) (H:Hp) (a:Addr) (ns:D!),cx!<=n->c3q H->Jf bM_ H a b8_->sp w bh_ H js_ λ_ _ _=>False)
  (rg:∀(w:World) (H:Hp) (s:Shared) (e:Value) (s':Shared),CX w [] H s jt! e s'->False):
  W.WalkO q xv XP YP l.row.toRowW d [] nv_:=by
 refine Att.a2f hn rf λw s₀ aj mg mb fa o pm cd bo a vs ns G vm ho hd bv j0 xw hints ak hg=>?_;have KX:=hY w _ vm;obtain⟨fd,O,hF⟩:=F w mg fa _ KX G.T.g j0;exact b6g KX G.T.g G.T.b G.T.builtins G.T.nolimit hg xw hints (BN ak ig) hr hF O (λH hO hS=>jc w H a ns ak hO hS) λH e s'=>rg w H aj e s'
def b2k{l:W.OpenLaw}{n k:Nat}{XP:ns_}{YP:nt!}{d:DefRec}{K:vk!}{CX:CXT}{sp:W.Frag->Sp}{x:Str}
  (hn:jp!)(ig:no!)(rf:nt_)(hr:nx!)
  (hY:vk_)
  (F:∀(w:World) (mg:C!) (fa:Addr) (h:Heap),(bM_).In h->h.Ns mainGlobals mg->mg d.name=some e6_->
   ∃fd:FuncData,vl!/\
    ∀base:Heap,(bM_).In base->base.Ns mainGlobals mg->Km l.prog w bM_ mg base CX k fa fd [x] (sp bM_))
  (jc:∀(K:W.Frag) (H:Hp) (a:Addr) (ns:D!),cx!<=n->c3q H->Jf K H a b8_->sp K bh_ H js_ λ_ _ _=>False)
  (rg:∀(H:Hp) (s:Shared) (e:Value) (s':Shared),CX [] H s jt! e s'->False):
  W.WalkO q xv XP YP l.row.toRowW d [] nv_:=
 b9f (K:=K) (CX:=λ_=>CX) (sp:=λw=>sp bM_) hn ig rf hr hY F (λw H a ns B Y h3=>jc bM_ H a ns B Y h3) λ_ H s e s'=>rg H s e s'
end L2
namespace L2
open PySem PySem.Spec PyProof.Rows
nonrec def Kq(s:Stmt):Arguments:=match s with
 |.FunctionDef _ a _ _ _ _ _ _ _ _=>a
 |_=>{posonlyargs:=[],args:=[],vararg:=none,kwonlyargs:=[],kw_defaults:=[],kwarg:=none,defaults:=[]}
nonrec def Gg(s:Stmt):List Stmt:=match s with
 |.FunctionDef _ _ b _ _ _ _ _ _ _=>b
 |_=>[]
nonrec def Ai(s:Stmt):Scope:=match s with
 |.FunctionDef _ _ _ _ _ _ sc _ _ _=>sc
 |_=>{kind:=.function,names:=[],isGenerator:=false,isCoroutine:=false}
abbrev iL:CXT:=λ_ _ _ _ _ _=>False
abbrev E0:XK:=λ_ _ _=>False
def lR{X:Cx}:Wx iL X E0:=λ_ _ _ _ _ _ _ h=>h.elim
structure Fun(K:W.Frag)(x qual:Str)(st:Stmt)(f:Addr)(fd:FuncData):Prop where
 ex:∃(oc:Value) (od:a6_) (kV bo pm:Value) (an:a6_) (ae ct:Value) (du:b7_),
  fd=W.fnOf x qual jw_ bN! bA! .none kV bo pm an ae ct/\K.lookup f=some ⟨oc,od,.func fd,du⟩/\W.codeIn K ae qual=true
 kp:W.keepIn K af_=true
section
variable{P:Program}{w:World}{K:W.Frag}{mg:Str->Option Value}{base:Heap}
def Fun.ok{x:Str}{st:Stmt}{f:Addr}{fd:FuncData}{ps:k!}{k:Nat}{sp:Sp}(F:vm!)(S:dZ!)(len:tT!)
  (ph:∀(ae:Value) (A:Around) (outer:as!) (s:Shared) (H:Hp) (vs:k_) (Q:VK) (E:XK),Ax k (A.deeper (envOfC qual bA! s.heap.objs.size f ae))->sp vs H Q E->
   ∃t,PSs (fD iL P w K mg base N qual bA! f ae A outer s H E).nox bN! t/\t {nx:=λ_ H'=>Q .non H',rt:=Q} gy! H):Km P w K mg base iL Q! f fd ps sp:=by
 show"#-";refine d3c lk bv S len λA outer s H vs Q E hr jc=>?_;obtain⟨t,h,q⟩:=ph ae A outer s H vs Q E hr jc;exact⟨t,h.nox,q⟩
def Fun.binds{x:Str}{st:Stmt}{f:Addr}{fd:FuncData}{ps:k!}(F:vm!)
  (h:vm_):Js K fd ps []:=by
 show"#-";exact .all (h kV bo pm an ae ct)
def Zy{x:Str}{st:Stmt}{f:Addr}{od an:a6_}{du:b7_}{kV:Value}(l:vn_)
  (c:i3!)(k:gI!):Fun K x qual st f nz_:=⟨⟨oc,od,kV,bo,pm,an,ae,ct,du,rfl,l,c⟩,k⟩
end
def a9u{n:Nat}(h:n<=1000):n<sizeLine:=CW h c!
def Wj{A hb:Prop}(h:hb):if false=true then A else hb:=by rw[AI BC];exact h
def Wi{A hb:Prop}(h:A):if true=true then A else hb:=by rw[j!];exact h
nonrec def Cr(H H':Hp):Prop:=∀b o,H b=some o->H' b=some o
def Cr.refl(H:Hp):Cr H H:=λ_ _ h=>h
def Cr.trans{H H1 H2:Hp}(a:Cr H H1)(b:Cr H1 H2):Cr H H2:=λc o h=>b c o (a c o h)
def Cr.free{H H':Hp}(e:e7!){l:Addr}(h:H' l=Option.none):H l=Option.none:=by
 cases q:H l with
 |none=>rfl
 |some o=>
  rw[e l o q]at h;cases h
def Cr.seq{K:W.Frag}{H H':Hp}{a:Addr}{xs:k_}(e:e7!)(h:Jf K H a xs):Jf K H' a xs:=by
 rcases h with(h|⟨o,h⟩)|h
 .exact vo_
 .exact vp_
 .exact .inr h
end L2
namespace L2
open PySem PySem.Spec PyProof.Rows
def Inv.track{X:Cx}{J:l_}{Z:St}{H:Hp}{s:Shared}{D:Addr}{ys:k_}{us:h_}{n:Nat}(I:d!)
  (hD:s.heap.get? D=some {cls:=.type "list",data:=.seq us.toArray n})(r:Ce ys us)(hz:jf!)(hn:H D=none)(hs:dF_<=D)(hL:D≠X.env.locals)
  (hc:∀x c,X.env.cells.lookup x=some c->c≠D)(hp:∀p∈X.pn++J,p.1≠D):Inv X J Z (upd H D aU!) s:=by
 have ne:∀b u,H b=some u->b≠D:=λb u e=>Ea e hn;refine I.step (g':=s.gens) (d':=s.drawn) (t':=s.toks) (h':=s.heap) (ch:=[D]) lL_ (λb o _ _ _ e _=>e) (λb o _ _ _ e _=>vr!) (λb o hc e n=>?_) (λb o _ e=>⟨o,e⟩)
  (λb xs e=>by rw[nA!];exact e) (λb o u e=>by rw[nA!];exact e) (λb ps e=>⟨#[],by rw[nA!,e];simp⟩) nA_ q8_ I.bare
 .have e:b=D:=by simpa using O
  subst e;exact⟨.inr hs,hL,hc,hp⟩
 .rw[nB_];exact n
 .by_cases O:b=D
  .show"!|";exact⟨hz,us,n,r,hD⟩
  .rw[Bn O]at e;exact(I.hok b u e).stay nC! (λc q=>by rw[Bn (ne c _ q)];exact q) λc xs q=>by rw[Bn (ne c _ q)];exact q
nonrec def closOf(cells:bk!):List vs_->List e8!->List e8!
 |[],acc=>acc
 |(n,k)::r,acc=>if k==.free then closOf cells r ((n,(vt!).getD 0)::acc)else closOf cells r acc
structure c3s(X:Cx)(scope:Scope)(cl:bk!):Prop where
 eq:closureFor scope X.env=pure cl
 sub:∀x c,cl.lookup x=some c->X.env.cells.lookup x=some c
 all:∀x,scope.names.lookup x=some .free->∃c,cl.lookup x=some c
def fE{env:Env}:∀(names:e8_) (acc:bk!),(∀p∈names,p.2=.free->∃c,env.cells.lookup p.1=some c)->
  (forIn names acc λx r=>(match x with|(name,kind)=>if(kind==gI_)=true then(do let a <-cellOf env name;pure vt_)else pure jx!:Sem vu_))=(pure (closOf env.cells names acc):Sem (List e8!))
 |[],acc,_=>rfl
 |(n,k)::r,acc,h=>by
  rw[FP];cases hk:(k==gI_)with
  |true=>
   obtain⟨c,hc⟩:=h (n,k) AL vv_;have a8:env.cells.lookup n=some c:=hc;have e:cellOf env n=pure c:=by unfold cellOf;rw[a8]
   have ih:=fE r ((n,c)::acc) λp hp=>h p jx_;have e2:closOf env.cells ((n,k)::r) acc=closOf env.cells r ((n,c)::acc):=by
    show vw_;rw[a5_,a8];rfl
   rw[e2,<-ih];simp only[hk,CF,e];rfl
  |false=>
   have ih:=fE r acc λp hp=>h p jx_;have e2:closOf env.cells ((n,k)::r) acc=closOf env.cells r acc:=by
    show vw_;rw[AI (by rw[hk];exact BC)]
   rw[e2,<-ih];simp only[hk];rfl
def aE(cells:bk!):∀(names:e8_) (acc:bk!),(∀p∈names,p.2=.free->∃c,cells.lookup p.1=some c)->(∀p∈acc,cells.lookup p.1=some p.2)->∀p∈closOf cells names acc,cells.lookup p.1=some p.2
 |[],_,_,h=>h
 |(n,k)::r,acc,hn,h=>by
  unfold closOf;split
  .rename_i hk;obtain⟨c,hc⟩:=hn (n,k) AL vv_;refine aE cells r _ vx_ λp hp=>?_;rcases AE.mp hp with rfl|hp
   .have a8:cells.lookup n=some c:=hc;show cells.lookup n=some ((vt!).getD 0);rw[a8];rfl
   .exact h p hp
  .exact aE cells r _ vx_ h
def aG(cells:bk!):∀(names:e8_) (acc:bk!) (x:Str),(∃c,(x,c)∈acc)->∃c,(x,c)∈closOf cells names acc
 |[],_,_,h=>h
 |(n,k)::r,acc,x,h=>by
  unfold closOf;split
  .exact aG cells r _ x (let⟨c,hc⟩:=h;⟨c,AD _ hc⟩)
  .exact aG cells r _ x h
def aF(cells:bk!):∀(names:e8_) (acc:bk!) (x:Str),(x,gI_)∈names->∃c,(x,c)∈closOf cells names acc
 |[],_,_,h=>nomatch h
 |(n,k)::r,acc,x,h=>by
  unfold closOf;rcases AE.mp h with h|h
  .cases h;rw[gK_];exact aG cells r _ _ ⟨_,AL⟩
  .split
   .exact vy!
   .exact vy!
def Yu{β:Type}:∀{l:List (Str×β)} {x:Str} {c:β},(x,c)∈l->∃d,l.lookup x=some d
 |[],_,_,h=>nomatch h
 |(n,k)::r,x,c,h=>by
  cases L:(x==n)with
  |true=>exact⟨k,by simp[BY,L]⟩
  |false=>
   rcases AE.mp h with h|h
   .cases h;simp at L
   .obtain⟨d,hd⟩:=Yu h;exact⟨d,by simp[BY,L,hd]⟩
def a9c{X:Cx}{scope:Scope}(h:∀p∈ca!,p.2=.free->∃c,X.env.cells.lookup p.1=some c):∃cl,c3s X scope cl:=by
 refine⟨closOf X.env.cells scope.names [],?_,lJ_,λx e=>?_⟩
 .have e:=fE (env:=X.env) scope.names [] h;show(do let cs <-forIn scope.names [] _;pure cs)=_;simp only[closureFor];rw[show(forIn scope.names ([]:List e8!) λx r=>(match x with|(name,kind)=>if(kind==NameKind.free)=true then(do let a <-cellOf X.env name;pure vt_)else pure jx!:Sem vu_))=pure (closOf X.env.cells scope.names [])from e];rfl
 .exact aE X.env.cells scope.names [] h q1_ (x,c) (ED e)
 .obtain⟨c,hc⟩:=aF X.env.cells scope.names [] x (ED e);exact Yu hc
nonrec def aC(X:Cx)(scope:Scope)(cl:bk!)(C:Addr)(N:k!)(al:Shared)(bc:Hp)(fp:ar_):Cx:=
 {X with N:=N,s₀:=al,H₀:=bc,env:=compEnvC scope cl C X.env,outer:=X.stack,stack:=X.stack,ex:=fp,fn:=λ_=>false,pn:=[],xe:=λ_ _=>False}
def Vy{env:Env}:∀{names:e8_} {x:Str},(∀y∈names,y.2≠.cell)->
  ((jz_).lookup x=some .cell\/
     (jz_).lookup x=some .free)->names.lookup x=some .free
 |[],_,_,h=>by simp at h
 |(n,k)::r,x,hc,h=>by
  have ih:=@Vy env r x λy hy=>hc y d0_;have hk:k≠.cell:=hc (n,k) AL;rw[AH]at h;by_cases hf:nD_=true
  .simp only[hf,CF]at h;cases L:x==n with
   |true=>
    simp only[BY,L];simp only[BH,FR]at hf;rw[hf.1.1]
   |false=>
    simp only[BY,L]at h ⊢;exact ih h
  .simp only[hf]at h;cases L:x==n with
   |true=>
    simp only[BI,BW,BY,L]at h ⊢;rcases h with h|h
    .cases h;exact absurd rfl hk
    .exact h
   |false=>
    show"#7";exact ih h
def Vz{env:Env}:∀{names:e8_} {x:Str},names.lookup x=some .free->
  ((jz_).lookup x=some .cell\/
     (jz_).lookup x=some .free)
 |[],_,h=>by simp at h
 |(n,k)::r,x,h=>by
  have ih:=@Vz env r x;rw[AH];by_cases hf:nD_=true
  .simp only[hf,CF];cases L:x==n with
   |true=>exact .inl (by simp[BY,L])
   |false=>
    simp only[BY,L]at h ⊢;exact ih h
  .simp only[hf];cases L:x==n with
   |true=>
    show"#7";exact .inr h
   |false=>
    show"#7";exact ih h
structure Hg(X:Cx)(scope:Scope)(NF:k!)(ix:j_):Prop where
 len:NF.length=ix.length
 at_:∀(k:Nat) (x:Str),NF[k]?=some x->∃j,ix[k]?=some j/\X.N[j]?=some x/\scope.names.lookup x=some .free/\qT!
def Hg.nil{X:Cx}:Hg X scope [] []:=⟨rfl,λk x e=>by simp at e⟩
def Hg.cons{X:Cx}{scope:Scope}{j:Nat}{ix:j_}(h:de_)(B:vz_:=by rfl)(Y:scope.names.lookup x=some .free:=by rfl)
  (h3:X.env.kindOf x=some .cell\/X.env.kindOf x=some .free:=by first|exact Or.inl rfl|exact Or.inr rfl):Hg X scope (x::NF) (j::ix):=
 ⟨by simp[h.len],λk y e=>by
  cases k with
  |zero=>simp at e;subst e;exact⟨j,rfl,B,Y,h3⟩
  |succ k=>simpa using h.at_ k y cT_⟩
nonrec def gU(nl:Nat)(ix:j_)(Z:St):St:=List.replicate nl none++ix.map λj=>(Z[j]?).join
def c9d{X:Cx}{J:l_}{Z:St}{H2:Hp}{s2:Shared}{scope:Scope}{cl:bk!}{fp:ar_}
  (ce:df!)(b9:df_)(bq:nE_)(I2:nF!)(f2:nF_)(flt:vA_)(hC:N_<=C):
  (aC X scope cl C N s2 H2 fp).Ok where
 mod:=I2.ok.mod
 kind:=ce
 glob:=I2.ok.glob
 blt:=I2.ok.blt
 above:=hC
 inj:=λx y c B Y=>I2.ok.inj x y c (bq.sub x c B) (bq.sub y c Y)
 has:=λx h=>bq.all x (Vy b9 h)
 cab:=λ_ _ h=>nomatch h
 hd:=I2.ok.hd
 frames:=I2.ok.frames
 stk:=.inl rfl
 exf:=λb O=>⟨BV (BE jA_ hC),λx c h=>(iy_).2.2.2.2.1 x c gL!⟩
 bs:=I2.bs
 bsz:=BN I2.ok.bsz I2.sz
 noex:=λb o e O=>by
  rcases(iy_).2.2.2.1 with z|z
  .exact I2.ok.noex b o e z
  .exact absurd (BE cW! (BN I2.ok.bsz z)) dF!
 exfs:=λb O hf=>by
  obtain⟨_,f1,f3,_⟩:=f2 b O;rcases AE.mp (I2.stkSub b hf)with z|z
  .exact f1 z
  .exact f3 z
 funs:=I2.stack
 frf:=I2.stkFree
def b6w{X:Cx}{J:l_}{Z:St}{H2:Hp}{s2:Shared}{scope:Scope}{cl:bk!}{D:Addr}{oD:Obj}{NL:k!}{ix:j_}{fp:ar_}{h₁:Heap}{t:Nat}{m:C!}
  (ce:df!)(b9:df_)(bq:nE_)(cap:de_)(I2:nF!)(f2:nF_)(flt:vA_)
  (hC:N_<=C)(hD:N_<=D)(jh:D≠C)(ah:∀b u,s2.heap.get? b=some u->h₁.get? b=some u)(hn:h₁.Ns C m)(xk:h₁.get? D=some oD)(xl:∀v,oD.data≠.cell v):
  Inv (aC X scope cl C gL_ s2 H2 fp) (dg!++[(D,oD)]) nH_ H2 {s2 with heap:=h₁,toks:=t}:=by
 refine⟨c9d ce b9 bq I2 f2 flt hC,rfl,I2.bare,Un.kept ah,⟨m,hn,qZ_⟩,λx c h=>?_,I2.hok.fresh hC,λx c h=>I2.freeC x c gL!,cr_,I2.hok.kept ah,?_⟩
 .have LX:gL_[i]?=some x:=e1;unfold gU at e2;by_cases hi:i<NL.length
  .rw[DC gz!,GF]at e2;rw[AQ hi]at e2;cases e2
  .rw[eW_,BS,FN]at e2;rw[eW_]at LX;obtain⟨j,hj,hN,hf,hk⟩:=cap.at_ _ _ LX;rw[hj]at e2;have vp:(Z[j]?).join=some v:=BZ e2;have e4:Z[j]?=some dG!:=by
    cases q:Z[j]? with
    |none=>rw[q]at vp;cases vp
    |some o=>rw[q]at vp;exact congrArg some vp
   obtain⟨m2,_,hl⟩:=I2.loc;have hv:Vis X.env.scope x:=hk.elim (λz=>.inr jB!) λz=>.inr e9_;obtain⟨u,r,l⟩:=hl j x v hN e4 hv;refine⟨u,r,.inr ?_⟩;rcases l with⟨k,_⟩|⟨_,c,hc,z⟩
   .rcases hk with z|z
    .rw[z]at k;cases k
    .rw[z]at k;cases k
   .obtain⟨c',a8⟩:=bq.all x hf;have e5:=bq.sub x c' a8;rw[hc]at e5;cases e5;obtain⟨o,ho,hd⟩:=z;exact⟨Vz hf,c,a8,⟨o,ah _ _ ho,hd⟩⟩
 .obtain⟨v,o,ho,hd⟩:=I2.cell x c gL!;exact⟨v,o,ah _ _ ho,hd⟩
 .have LY:∀b,b≠X.env.locals->b∉X.fs->b∉frs X.stack:=λb B Y h3=>(AE.mp (I2.stkSub b h3)).elim B Y;have br:p∈dg!++[(D,oD)]:=by simpa[aC]using hp
  rcases AR.mp br with br|br
  .obtain⟨e,n,ne,nf,d⟩:=I2.pin p br;exact⟨ah _ _ e,n,BV (BE cW! hC),LY _ ne nf,d⟩
  .have e:p=(D,oD):=by simpa using br
   subst e;exact⟨xk,I2.hok.fresh hD,jh,LY _ (GQ (BE I2.lt hD)) (I2.nofs hD),xl⟩
 .show(nH_).length=(gL_).length;unfold gU;rw[AT,AT,AU,FN,cap.len]
def wR{R:s0!}{E:p_}(I:Nat->Shared->Prop)
  (hE:∀e s',E e s'->notedBy n_ A env (λe s'=>R (.error e) s') e s')
  (turn:∀n s,I n s->wpAny n_ A (pyNext it) (λr aj=>match r with
   |none=>R (.ok .next) aj
   |some v=>wpAny n_ A (letOwnedTupleGo q8 it v) (λ_ LZ=>wpAny n_ A (assign q8 env v) (λ_ al=>
     wpAny n_ A (forIn cr true λc r=>if r=true then do let ok <-isTrue c env (eval c env);pure vD! else pure jx!) (λok dt=>
      if ok=true then wpAny n_ A (eval dm env) (λx vq=>
       wpAny n_ A (call (.builtin "list.append") [acc,x]) (λ_ MB=>∃m,m<n/\I m MB) E vq) E dt
      else∃m,m<n/\I m dt) E al) E LZ) E aj) E s)
  (n:Nat) (h:I n s):codeAny n_ A (.compLoop vD_ 0 it acc env) R s:=by
 refine codeAny_loop rfl I (λn s hI=>?_) n h;show wpAny _ A ((compTurn vD_ 0 it acc env).onRaise (λx=>do noteFrame x env;theTreesLotGoes x)) _ _ s;refine wpAny_noted ?_;rw[compTurn_list];refine AA (IP (AA (DF (turn n s hI) (λr aj h₁=>?_) hE)));cases r with
 |none=>exact AC h₁
 |some v=>
  refine AA (DF h₁ (λ_ LZ RC=>?_) hE);refine AA (DF RC (λ_ al rc=>AA (DF rc (λok dt vj=>?_) hE)) hE);cases ok with
  |false=>exact AC ⟨rfl,vj⟩
  |true=>
   exact AA (AA (DF vj (λx vq RD=>AA (DF RD (λ_ MB RE=>AC (AC ⟨rfl,RE⟩)) hE)) hE))
nonrec def iJ(X:Cx)(cr:bu_)(t:TT):Prop:=
 ∀(J:l_) (s:Shared) (Z:St) (H:Hp) (Q:dH!),Inv X J Z H s->t Z H Q->
  wpAny e_ X.A (forIn cr true λc r=>if r=true then do let ok <-isTrue c X.env (eval c X.env);pure vD! else pure jx!) h9_ X.xe s
nonrec def d0r:TT:=λ_ H Q=>Q true H
def zI{X:Cx}:iJ X [] d0r:=λJ s Z H Q I h=>wpAny_tests_nil ⟨H,I,h⟩
def zH{X:Cx}{t:TT}(h:PT X c t):iJ X [c] t:=λJ s Z H Q I hw=>wpAny_tests_one rB!
nonrec def a9i(ac:It)(g:TG)(tt:TT)(te:TE)(Fin:cX_)(Z:St)(H:Hp):Prop:=∃W:Nat->Nat->List V->St->Hp->Prop,(∃m,W 0 m [] Z H)/\∀i m ys Z H,W i m ys Z H->M_<=sizeLine/\
 ((ac.stop i H/\Fin ys H)\/(ac.go i H/\∀x H',ac.yld i H x H'->g x Z H' λc8 H2=>tt c8 H2 λb H3=>if b=true then te c8 H3 λy H4=>∃m',m'<m/\W a2! m' (ys++[y]) c8 H4 else∃m',m'<m/\W a2! m' ys c8 H3))
abbrev a0f(us:h_)(n:Nat):Obj:={cls:=.type "list",data:=.seq us.toArray n}
def sF{X:Cx}{scope:Scope}{NL:k!}{ix:j_}{cl:bk!}{g:TG}{tt:TT}{te:TE}{E:p_}
  {J:l_}{Z:St}{H2:Hp}{s2:Shared}{fp:ar_}{tn:dL_}{ac:It}{Fin:cX_}{RR:Value->Addr->Result->Shared->Prop}
  (ce:df!)(b9:df_)(bq:nE_)(cap:de_)(calm:bf_)
  (hg:∀C al bc fp,PG cb! tg g)(hi:∀C al bc fp,iJ cb! cr tt)(he:∀C al bc fp,PE cb! dm te)
  (I2:nF!)(T:oB X.prog X.w X.K tg ac fp it tn)(bg:tn 0 s2.heap)(f2:nF_)(hw:a9i ac g tt te Fin nH_ H2)
  (RF:∀(D C:Addr) (us:h_) (n:Nat) (ys:k_) (H':Hp) (s':Shared),Inv X J Z H' s'->s'.heap.get? D=some (a0f us n)->Ce ys us->M_<=sizeLine->H' D=none->N_<=D->N_<=C->D≠C->H' C=none->
   (∃m,s'.heap.Ns C m)->Fin ys H'->RR (.ref D) C (.ok .next) s'):
  wpAny e_ X.A (newList []) (λacc dt=>wpAny e_ X.A (newFunctionEnv scope X.env.globals cl [] X.env.qual none .none (some X.env)) (λMC vq=>
   codeAny e_ X.A (.compStart gM_ 0 b0_ acc {MC with scope:=relabel scope X.env}) (RR acc MC.locals) vq) E dt) E s2:=by
 obtain⟨W,⟨m0,w0⟩,turn⟩:=hw;have flt:∀b∈fp,b<N_:=λb O=>let⟨o,e,_⟩:=T.obj _ _ bg b O;BF e;refine DM (wpAny_newFunctionEnv b9 (by intro y hy;simp at hy) (λh₁ xy vt=>?_) ce);dsimp only at xy vt ⊢;generalize xz:s2.heap.push {cls:=.type "list",dict:=none,data:=.seq (vH!).toArray}=G2 at xy vt ⊢;have hC:gN_=N_+1:=by rw[<-xz,GI]
 have jh:N_≠gN_:=by rw[hC];exact BV eS_
 have MD:N_<=gN_:=by rw[hC];exact HS _
 have MF:∀b,b<N_->b≠gN_:=λb O=>by rw[hC];exact BV (Nat.lt_succ_of_lt O)
 have ah:∀b o,s2.heap.get? b=some o->h₁.get? b=some o:=λb o e=>vt.extBut b o (MF b cW!) (AG _ (xz▸AG _ e));have RG:h₁.get? N_=some (a0f [] 0):=vt.extBut _ _ jh (AG _ (xz▸BD _ rfl));have ii:tn 0 h₁:=T.keep _ _ _ bg λb _ o e=>ah b o e;have I1:=b6w (NL:=NL) (t:=s2.toks+(vI!).length) ce b9 bq cap I2 f2 flt MD x_ jh ah xy RG vI_;have mi:∀{H':Hp} {oD:Obj},gh!->∀b∈fp,Qk d2_ (dg!++[(N_,oD)]) H' b:=λ{H' oD} hn b O=>by
  obtain⟨_,f1,f3,f4,f5,f6⟩:=f2 b O;refine⟨hn b O,MF b jA_,λz=>(AE.mp (I2.stkSub b z)).elim f1 f3,.inl O,λx c h=>f5 x c gL!,cr_⟩;have br:p∈dg!++[(N_,oD)]:=by simpa[aC]using hp
  rcases AR.mp br with br|br
  .exact f6 p br
  .have e:p=(N_,oD):=by simpa using br
   subst e;exact GQ jA_
 have MH:∀dt:Shared,dt={s2 with heap:=h₁,toks:=s2.toks+(vI!).length}->
   codeAny e_ X.A (.compLoop gM_ 0 b0_ (.ref N_) (compEnvC scope cl G2.objs.size X.env)) (RR (.ref N_) gN_) dt:=by
  rintro dt rfl;refine wR (E:=vJ_) (λk s'=>∃i ys us n hx H',Inv d2_ (dg!++[jD!]) hx H' s'/\tn i s'.heap/\gh!/\Ce ys us/\W i k ys hx H')
   (λ_ _ z=>z.elim) ?_ m0 ⟨0,[],[],0,_,H2,I1,ii,sh!,.nil,w0⟩
  rintro k s' ⟨i,ys,us,n,hx,H',I',h1,MJ,rv,w'⟩;obtain⟨ak,ya⟩:=turn i k ys hx H' w';rcases ya with⟨stop,fin⟩|⟨go,step⟩
  .refine Gn (T.done d2_ rfl rfl rfl calm i _ s' hx H' _ I' (mi MJ) h1 stop) λr s4 ⟨hr,I4⟩=>?_;subst hr;have ML:=I4.pin jD! (by simp[aC]);have IX:Inv X J Z H' s4:=I2.call' (ch:=fp) I4.os I4.base I4.hok I4.bare λb O=>by
    obtain⟨_,f1,f3,f4,f5,f6⟩:=f2 b O;exact⟨f4,f1,f5,f6⟩
   obtain⟨mC,RH,_⟩:=I4.loc;exact RF _ _ us n ys H' s4 IX ML.1 rv ak ML.2.1 x_ MD jh I4.free ⟨mC,RH⟩ fin
  .refine Gn (T.item d2_ rfl rfl rfl calm i _ s' hx H' _ I' (mi MJ) h1 go) λr s4 ⟨u,hr,h4⟩=>?_;subst hr;refine Gn h4 λ_ s5 ⟨x,H5,I5,r5,y5,mj,xg⟩=>?_;have xh:=I5.pinned (mi xg) sh_;refine Gn (hg _ _ _ _ _ s5 hx H5 x u _ xh r5 si!) λ_ s6 ⟨lb,H6,I6,q6⟩=>?_;refine Gn (hi _ _ _ _ _ s6 lb H6 _ I6 q6) λok s7 ⟨H7,I7,q7⟩=>?_;have MM:∀{MN:St} {H8:Hp} {s8:Shared},Inv d2_ ((dg!++[jD!])++lO fp s5.heap) MN H8 s8->tn a2! s8.heap/\∀b∈fp,H8 b=none:=λ{MN H8 s8} I8=>by
    refine⟨T.keep _ _ _ mj λb O o e=>(vL!).1,bg_⟩;obtain⟨o,e,d⟩:=T.obj _ _ mj b O;exact(vL!).2.1
   cases ok with
   |false=>
    simp only[BI,BW]at q7 ⊢;obtain⟨m',hm,w7⟩:=q7;obtain⟨t7,n7⟩:=MM I7;exact⟨m',hm,i+1,ys,us,n,lb,H7,iz!,t7,n7,rv,w7⟩
   |true=>
    simp only[CF]at q7 ⊢;refine Gn (he _ _ _ _ _ s7 lb H7 _ I7 q7) λyv s8 ⟨y,H8,I8,r8,m',hm,w8⟩=>?_;obtain⟨t8,n8⟩:=MM I8;have pD:=I8.pin jD! (AS _ (BG _ c_));have RI:ar!=M_:=rv.length.symm;refine wpAny_list_append_plain (items:=cE_) (hsz:=by simpa[RI]using ak) ⟨n,pD.1⟩ λh9 RJ MO=>?_;obtain⟨n9,e9⟩:=RJ;have RK:Inv d2_ dg! lb H8 s8:=I8.pins_of λp hp=>I8.pin p (AS _ (BG _ (BG _ hp)));have I9:Inv d2_ dg! lb H8 {s8 with heap:=h9,toks:=s8.toks}:=by
     refine RK.turned (it:=N_) (λb o O e=>(MO.2 b O).trans e) pD.2.1 jh (.inr x_) (λx c h=>?_) λp hp=>?_
     .obtain⟨v,o,ho,_⟩:=I2.cell x c gL!;exact BV h2!
     .have br:p∈X.pn++J:=by simpa[aC]using hp
      exact BV (BF (I2.pin p br).1)
    have RL:h9.get? N_=some (a0f (us++[yv]) n9):=by
     rw[e9,List.push_toArray]
    refine⟨m',hm,i+1,ys++[y],us++[yv],n9,lb,H8,I9.pins_of λp hp=>?_,T.keep _ _ _ t8 λb O o e=>(MO.2 b (BV jA_)).trans e,n8,rv.append (.cons r8 .nil),w8⟩;rcases AR.mp hp with hp|hp
    .exact I9.pin p (AS _ hp)
    .have e:p=(N_,a0f (us++[yv]) n9):=by simpa using hp
     subst e;exact⟨RL,pD.2.1,pD.2.2.1,pD.2.2.2.1,jD_⟩
 exact codeAny_compStart_list (MH _ rfl) (T.self _ 0 _ _ _ ii (MH _ rfl))
nonrec def c4a(nl:Nat)(ix:j_)(wi:TI)(g:TG)(tt:TT)(te:TE):TE:=λZ H Q=>wi Z H λac H1=>a9i ac g tt te (λys H'=>∀p,H' p=none->Q b5_ (upd H' p aU!)) (gU nl ix Z) H1
def a7n{X:Cx}{scope:Scope}{NL:k!}{ix:j_}{wi:TI}{g:TG}{tt:TT}{te:TE}
  (ce:df!)(b9:df_)(j4:∀y∈ca!,y.2=.local->scope.names.lookup y.1=some .local)
  (ic:gO!)(cap:de_)(calm:bf_)(az:mo!)
  (hg:gO_)(hi:vN_)(he:vO!)
  (hs:c6_:=by intro _;rfl):
  PE X gM_ vO_:=by
 show"!I";show"!W"
 rw[eval_ListComp];refine wpAny_comprehension_free (use:=none) rfl hs bq.eq ce j4 vP!;obtain⟨it,fp,tn,ac,H2,e,I2,T,bg,f2,hw⟩:=Y;subst e;refine sF (RR:=λacc C=>compPost e_ X.A X.xe none aJ_ acc C) ce b9 bq cap calm (hg cl) (hi cl) (he cl) I2 T bg f2 hw λD C us n ys H' s' I' eD rv ak nD hD hC jh nC ⟨m,hn⟩ fin=>?_;refine⟨m,hn,λh' bu=>?_⟩;have ff:∀b,b<N_->b≠C/\b≠D:=λb O=>vQ_;have pp:∀x c,X.env.cells.lookup x=some c->c<N_:=λx c h=>let⟨_,_,ho,_⟩:=I2.cell x c h;BF ho;have rh:∀p∈X.pn++J,p.1<N_:=λp hp=>BF (I2.pin p hp).1;have IC:Inv X J Z H' {s' with heap:=h',toks:=s'.toks}:=I'.turned (it:=C) vR! nC (AK (gP!).1) vR_ vS_ λp hp=>(jE!).1;have ID:=IC.track (D:=D) (us:=us) (n:=n) ((bu.2 D jh).trans eD) rv ak nD (BN I2.sz hD) (AK (gP!).2) vT! λp hp=>(jE!).2;exact⟨.ref D,_,ID,rfl,fin D nD⟩
end L2
namespace DL
open PySem PySem.Spec PyProof.Rows L2
abbrev St:=L2.St
inductive D where
 |non|bl (b:Bool)|int (i:Int)|str (x:Str)|tup (xs:b_)|lst (xs:b_)|fn (a:Addr)|dk (kvs:nM_)
mutual
noncomputable def Bl(K:W.Frag)(H:Hp):D->V->Prop
 |.non,v=>v=V.non
 |.bl b,v=>v=V.bl b
 |.int i,v=>v=V.int i
 |.str x,v=>v=V.str x
 |.tup xs,v=>∃a vs,v=V.ref a/\Lj K H a vs/\Bc K H xs vs
 |.lst xs,v=>∃a vs,v=V.ref a/\Jf K H a vs/\Bc K H xs vs
 |.fn a,v=>v=V.ref a
 |.dk kvs,v=>∃a,v=V.ref a/\Rd H a dQ_
noncomputable def Bc(K:W.Frag)(H:Hp):List D->List V->Prop
 |[],vs=>vs=[]
 |d::ds,vs=>∃v r,vs=v::r/\Bl K H d v/\Bc K H ds r
end
mutual
noncomputable def Ii:D->Bool
 |.lst _=>false
 |.dk _=>false
 |.tup xs=>Kc xs
 |_=>true
noncomputable def Kc:List D->Bool
 |[]=>true
 |d::ds=>Ii d&&Kc ds
end
mutual
noncomputable def Oa:D->Nat
 |.lst xs=>Hx xs+1
 |.tup xs=>Hx xs+1
 |_=>0
noncomputable def Hx:List D->Nat
 |[]=>0
 |d::ds=>max (Oa d) (Hx ds)
end
section
variable{K:W.Frag}{H H':Hp}
mutual
theorem Bl.map(ht:jF!)(hl:vT_)(hd:vU!):∀(d:D) (v:V),Bl K H d v->Bl K H' d v
 |.non,_,h=>h
 |.bl _,_,h=>h
 |.int _,_,h=>h
 |.str _,_,h=>h
 |.tup xs,_,h=>by
  show"!Z";exact⟨a,vs,e,ht a vs q,vU_⟩
 |.lst xs,_,h=>by
  show"!Z";exact⟨a,vs,e,hl a vs q,vU_⟩
 |.fn _,_,h=>h
 |.dk kvs,_,h=>by
  unfold Bl at h ⊢;obtain⟨a,e,q⟩:=h;exact⟨a,e,hd a kvs q⟩
theorem Bc.map(ht:jF!)(hl:vT_)(hd:vU!):∀(ds:b_) (vs:k_),Bc K H ds vs->Bc K H' ds vs
 |[],_,h=>h
 |d::ds,_,h=>by
  unfold Bc at h ⊢;obtain⟨v,r,e,q,t⟩:=h;exact⟨v,r,e,Bl.map ht hl hd d v q,Bc.map ht hl hd ds r t⟩
end
mutual
theorem Bl.mapT(ht:jF!):∀(d:D) (v:V),Ii d=true->Bl K H d v->Bl K H' d v
 |.non,_,_,h=>h
 |.bl _,_,_,h=>h
 |.int _,_,_,h=>h
 |.str _,_,_,h=>h
 |.tup xs,_,n,h=>by
  unfold Ii at n;show"!Z";exact⟨a,vs,e,ht a vs q,Bc.mapT ht xs vs n r⟩
 |.lst xs,_,n,_=>by
  unfold Ii at n;cases n
 |.fn _,_,_,h=>h
 |.dk _,_,n,_=>by
  unfold Ii at n;cases n
theorem Bc.mapT(ht:jF!):∀(ds:b_) (vs:k_),Kc ds=true->Bc K H ds vs->Bc K H' ds vs
 |[],_,_,h=>h
 |d::ds,_,n,h=>by
  unfold Kc at n;rw[BH]at n;unfold Bc at h ⊢;obtain⟨v,r,e,q,t⟩:=h;exact⟨v,r,e,Bl.mapT ht d v n.1 q,Bc.mapT ht ds r n.2 t⟩
end
def Df(e:e7!){a:Addr}(h:Lj K H a xs):Lj K H' a xs:=by
 rcases h with(h|⟨o,h⟩)|h
 .exact vo_
 .exact vp_
 .exact .inr h
def a6s(e:e7!){a:Addr}{o:HO}(h:Rd H a o):Rd H' a o:=by
 rcases h with h|⟨u,h⟩
 .exact .inl (e _ _ h)
 .exact .inr ⟨u,e _ _ h⟩
def Bl.mono(e:e7!)(h:gQ!):Bl K H' d v:=Bl.map vV_ vW! vW_ d v h
def Bc.mono(e:e7!)(h:cF_):Bc K H' ds vs:=Bc.map vV_ vW! vW_ ds vs h
def Bl.non:Bl K H .non V.non:=by unfold Bl;rfl
def Bl.bl{b:Bool}:Bl K H bH_ (V.bl b):=by unfold Bl;rfl
def Bl.int{i:Int}:Bl K H bd_ (V.int i):=by unfold Bl;rfl
def Bl.str:Bl K H dI! (V.str x):=by unfold Bl;rfl
def Bl.fn{a:Addr}:Bl K H dh_ fc!:=by unfold Bl;rfl
def Bl.tup{a:Addr}(h:Lj K H a vs)(r:cF_):Bl K H di! fc!:=by unfold Bl;exact vX!
def Bl.lst{a:Addr}(h:Jf K H a vs)(r:cF_):Bl K H cd! fc!:=by unfold Bl;exact vX!
def Bc.nil:Bc K H [] []:=by unfold Bc;rfl
def Bc.cons(h:gQ!)(t:cF_):Bc K H d4_ (v::vs):=by unfold Bc;exact⟨v,vs,rfl,h,t⟩
def Aq:∀{ds:b_} {vs:k_},Bc K H ds vs->f_=by!
 |[],vs,h=>by unfold Bc at h;subst h;rfl
 |d::ds,vs,h=>by
  unfold Bc at h;obtain⟨v,r,e,_,t⟩:=h;rw[e,AJ,AJ,Aq t]
def Kj:∀{ds:b_} {vs:k_} {i:Nat} {d:D},Bc K H ds vs->ds[i]?=some d->∃v,vs[i]?=some v/\Bl K H d v
 |[],_,_,_,_,e=>by simp at e
 |c::ds,vs,i,d,h,e=>by
  unfold Bc at h;obtain⟨v,r,e1,q,t⟩:=h;subst e1;cases i with
  |zero=>simp at e;subst e;exact⟨v,rfl,q⟩
  |succ i=>
   obtain⟨u,B,Y⟩:=Kj (i:=i) (d:=d) t cT_;exact⟨u,hS_,Y⟩
def Fm:∀{ds es:b_} {vs ws:k_},Bc K H ds vs->Bc K H es ws->Bc K H (ds++es) (vs++ws)
 |[],_,_,_,h,k=>by unfold Bc at h;subst h;exact k
 |c::ds,_,vs,_,h,k=>by
  show"!N";exact Bc.cons q (Fm t k)
def Xb:∀{ds:b_} {vs:k_} (n:Nat),Bc K H ds vs->Bc K H (ds.take n) (vs.take n)
 |_,_,0,_=>Bc.nil
 |[],_,n+1,h=>by unfold Bc at h;subst h;exact Bc.nil
 |c::ds,vs,n+1,h=>by
  show"!N";exact Bc.cons q (Xb n t)
def dU:∀{ds:b_} {vs:k_} (n:Nat),Bc K H ds vs->Bc K H nP! (vs.drop n)
 |_,_,0,h=>h
 |[],_,n+1,h=>by unfold Bc at h;subst h;exact Bc.nil
 |c::ds,vs,n+1,h=>by
  show"!N";exact dU n t
def kZ(hd:gQ!):∀{ds:b_} {vs:k_} (n:Nat),Bc K H ds vs->Bc K H (ds.set n d) (vs.set n v)
 |[],_,_,h=>by unfold Bc at h;subst h;exact Bc.nil
 |c::ds,vs,n,h=>by
  unfold Bc at h;obtain⟨u,r,e1,q,t⟩:=h;subst e1;cases n with
  |zero=>exact Bc.cons hd t
  |succ n=>exact Bc.cons q (kZ hd n t)
def Fq(h:Bc K H [] vs):vs=[]:=by unfold Bc at h;exact h
def Dc(h:Bc K H d4_ vs):∃v r,vs=v::r/\Bl K H d v/\Bc K H ds r:=by unfold Bc at h;exact h
def Cz(h:Bl K H di! v):∃a vs,v=V.ref a/\Lj K H a vs/\Bc K H ds vs:=by unfold Bl at h;exact h
def Cp(h:Bl K H cd! v):∃a vs,v=V.ref a/\Jf K H a vs/\Bc K H ds vs:=by unfold Bl at h;exact h
def Bp{i:Int}(h:Bl K H bd_ v):v=V.int i:=by unfold Bl at h;exact h
def Fo{i:Bool}(h:Bl K H (.bl i) v):v=V.bl i:=by unfold Bl at h;exact h
def Dj(h:Bl K H jG_ v):v=V.str i:=by unfold Bl at h;exact h
def Ip(h:Bl K H .non v):v=V.non:=by unfold Bl at h;exact h
def Kt{a:Addr}(h:Bl K H dh_ v):v=V.ref a:=by unfold Bl at h;exact h
def c5x{kvs:nM_}(h:Bl K H (.dk kvs) v):∃a,v=V.ref a/\Rd H a dQ_:=by unfold Bl at h;exact h
def Pm{o:HO}(h:cG!):Cr H fc_:=λb u e=>by rw[Bn (Ea e h)];exact e
def Jm(h:cG!)(r:cF_):Bl K (upd H p (.tup vs)) di! nR_:=Bl.tup (Lj.of Db) vX_
def Ew(h:cG!)(r:cF_):Bl K jH! cd! nR_:=Bl.lst (Jf.of Db) vX_
end
structure Ed(G H G' H':Hp):Prop where
 g:Cr G G'
 h:Cr H H'
 sub:Cr G' H'
 new:∀b,G' b≠none->G b≠none\/H b=none
def Ed.refl{G H:Hp}(s:L_):Ed G H G H:=⟨fd!,Cr.refl H,s,jH_⟩
def Ed.trans{G H G1 H1 G2 H2:Hp}(a:Ed G H G1 H1)(b:Ed G1 H1 G2 H2):Ed G H G2 H2:=
 ⟨a.g.trans b.g,a.h.trans b.h,b.sub,λc h=>(b.new c h).elim (λz=>a.new c z) λz=>.inr (a.h.free z)⟩
def Ed.laid{G H:Hp}{o:HO}(s:L_)(hp:cG!):Ed G H (upd G p o) fc_:=by
 refine⟨Pm (s.free hp),Pm hp,jJ!,bm!⟩
 .by_cases O:b=p
  .subst O;rw[Db]at e ⊢;exact e
  .rw[Bn O]at e ⊢;exact s b u e
 .by_cases O:b=p
  .subst O;exact .inr hp
  .rw[Bn O]at h;exact .inl h
abbrev Ag:=List (Option D)
structure OR(K:W.Frag)(own:j_)(G H:Hp)(Z:St)(ρ:Ag):Prop where
 sub:Cr G H
 len:gQ_=fZ_
 at_:∀(i:Nat) (d:D),ρ[i]?=some d6!->i∉own->∃v,Z[i]?=some dG!/\Bl K G d v
 own_:∀i∈own,∃p ds vs,ρ[i]?=some nU!/\Z[i]?=some cd_/\H p=some dj_/\G p=none/\Bc K G ds vs
 dis:∀i∈own,∀j∈own,i≠j->∀p q,Z[i]?=some cd_->Z[j]?=some (some (V.ref q))->p≠q
def OR.grow{K:W.Frag}{own:j_}{G H G' H':Hp}{Z:St}{ρ:Ag}(h:ce!)(x:jJ_):OR K own G' H' Z ρ where
 sub:=x.sub
 len:=h.len
 at_:=λi d q n=>let⟨v,B,Y⟩:=h.at_ i d q n;vZ!
 own_:=λi hi=>by
  obtain⟨p,ds,vs,B,Y,h3,h4,h5⟩:=h.own_ i hi;refine⟨p,ds,vs,B,Y,x.h _ _ h3,?_,h5.mono x.g⟩;cases q:G' p with
  |none=>rfl
  |some o=>
   rcases x.new p b9_ with z|z
   .exact absurd h4 z
   .rw[h3]at z;cases z
 dis:=h.dis
def OR.set{K:W.Frag}{own:j_}{G H:Hp}{Z:St}{ρ:Ag}{i:Nat}(h:ce!)(hi:bm_)(r:ce_):OR K own G H ey_ bO_ where
 sub:=h.sub
 len:=by rw[EF,EF,h.len]
 at_:=λj c q n=>by
  by_cases hj:i=j
  .subst hj;by_cases hi:i<gQ_
   .rw[CS hi]at q;cases q;exact⟨v,by rw[CS (by rw[<-h.len];exact hi)],r⟩
   .rw[CL (by rw[EF];omega)]at q;cases q
  .rw[BR hj]at q;rw[BR hj];exact h.at_ j c q n
 own_:=λj hj=>by
  have ne:i≠j:=λe=>hi (e▸hj);rw[BR ne,BR ne];exact h.own_ j hj
 dis:=λj hj k hk b7 p q e1 e2=>by
  have ne:i≠j:=λe=>hi (e▸hj);have yb:i≠k:=λe=>hi (e▸hk);rw[BR ne]at e1;rw[BR yb]at e2;exact h.dis j hj k hk b7 p q e1 e2
nonrec def Rt(own:j_)(Z:St):List Addr:=own.filterMap λi=>match Z[i]? with|some (some (V.ref p))=>some p|_=>none
def Xm{own:j_}{Z:St}(h:p∈Rt own Z):∃i∈own,Z[i]?=some cd_:=by
 obtain⟨i,hi,e⟩:=FH.mp h;refine⟨i,hi,?_⟩;show"!5"
 .rename_i q he;cases e;exact he
 .cases e
def yO{own:j_}{Z:St}{i:Nat}(hi:d7!)(h:vZ_):p∈Rt own Z:=FH.mpr ⟨i,hi,by rw[h]⟩
nonrec def Uq(own:j_)(Z:St)(G H:Hp):Hp:=λb=>if b∈Rt own Z then H b else G b
def OR.full{K:W.Frag}{own:j_}{G H:Hp}{Z:St}{ρ:Ag}(h:ce!):OR K [] ff! H Z ρ:=by
 have s1:Cr G ff!:=λb o e=>by
  unfold Uq;split
  .exact h.sub b o e
  .exact e
 have s2:Cr ff! H:=λb o e=>by
  unfold Uq at e;show"!5"
  .exact e
  .exact h.sub b o e
 refine⟨s2,h.len,nU_,am_,am_⟩;by_cases hi:i∈own
 .obtain⟨p,ds,vs,B,Y,h3,h4,h5⟩:=h.own_ i hi;rw[B]at q;cases q;refine⟨_,Y,Bl.lst (Jf.of (xs:=vs) ?_) (h5.mono s1)⟩;unfold Uq;rw[AQ (yO hi Y)];exact h3
 .obtain⟨v,B,Y⟩:=h.at_ i d q hi;exact⟨v,B,Y.mono s1⟩
nonrec def Le(ρ ρ':Ag):Prop:=gQ_=ρ'.length/\∀(i:Nat) (d:D),ρ[i]?=some d6!->ρ'[i]?=some d6!
def OR.le{K:W.Frag}{G H:Hp}{Z:St}{ρ ρ':Ag}(h:OR K [] G H Z ρ')(l:Le ρ ρ'):OR K [] G H Z ρ:=⟨h.sub,l.1.trans h.len,λi d q n=>h.at_ i d (l.2 i d q) n,am_,am_⟩
def Le.set{ρ ρ':Ag}{i:Nat}(h:Le ρ ρ')(hi:ρ[i]?=some none):Le ρ (ρ'.set i d6!):=by
 refine⟨by rw[EF];exact h.1,λj c q=>?_⟩;have:i≠j:=λe=>by subst e;rw[hi]at q;cases q
 rw[BR this];exact h.2 j c q
def Le.refl(ρ:Ag):Le ρ ρ:=⟨rfl,λ_ _ h=>h⟩
nonrec def c3i(nl:Nat)(ix:j_)(ρ:Ag):Ag:=List.replicate nl none++ix.map λj=>(ρ[j]?).join
def OR.cap{K:W.Frag}{own:j_}{G H:Hp}{Z:St}{ρ:Ag}(h:ce!)(nl:Nat)(ix:j_)(L:jL_):OR K [] G H (gU nl ix Z) nV_:=by
 unfold gU c3i;refine⟨h.sub,J!,nU_,am_,am_⟩;by_cases hi:i<nl
 .rw[DC gz!,GF,AQ hi]at q;cases q
 .rw[eW_,BS,FN]at q;rw[eW_,BS,FN];cases e:ix[i - nl]? with
  |none=>rw[e]at q;cases q
  |some j=>
   rw[e]at q;have q':(ρ[j]?).join=some d:=BZ q;have q2:ρ[j]?=some d6!:=by
    cases z:ρ[j]? with
    |none=>rw[z]at q';cases q'
    |some o=>rw[z]at q';exact congrArg some q'
   obtain⟨v,B,Y⟩:=h.at_ j d q2 (L j (GS e));exact⟨v,by simp[B],Y⟩
inductive tD(K:W.Frag)(own:j_)(f:d_)(Z:St)(H:Hp)(Q:VK):Prop
 |mk (G:Hp) (ρ:Ag) (d:D) (o:ce!) (e:cG_) (k:∀v G' H',Ed G H G' H'->Bl K G' d v->Q v H'):tD K own f Z H Q
inductive taD(K:W.Frag)(own:j_)(f:an!)(Z:St)(H:Hp)(Q:cX_):Prop
 |mk (G:Hp) (ρ:Ag) (ds:b_) (o:ce!) (e:f ρ=some ds) (k:∀vs G' H',Ed G H G' H'->Bc K G' ds vs->Q vs H'):taD K own f Z H Q
inductive ttD(K:W.Frag)(own:j_)(f:ag_)(Z:St)(H:Hp)(Q:dH!):Prop
 |mk (G:Hp) (ρ:Ag) (b:Bool) (o:ce!) (e:f ρ=some b) (k:∀G' H',Ed G H G' H'->Q b H'):ttD K own f Z H Q
structure DE(X:Cx)(own:j_)(e:Expr)(f:d_):Prop where
 ok:PE X e (tD X.K own f)
structure DA(X:Cx)(own:j_)(es:bu_)(f:an!):Prop where
 ok:PA X es (taD X.K own f)
structure DT(X:Cx)(own:j_)(e:Expr)(f:ag_):Prop where
 ok:PT X e v3!
structure DW(X:Cx)(own:j_)(e:Expr)(f:ag_):Prop where
 ok:PW X e v3!
section
variable{X:Cx}{own:List Nat}{e a b c:Expr}{es:List Expr}{pos:Pos}{f fa fb fc:Ag->Option D}{fs:Ag->Option (List D)}{ft fu:Ag->Option Bool}
def Ja{t:TE}(h:ic_)(hw:∀Z G H Q ρ d,OR X.K own G H Z ρ->f ρ=some d->(∀v G' H',Ed G H G' H'->Bl X.K G' d v->Q v H')->t Z H Q):DE X own e f:=v3_
def b7z{t:TA}(h:gu_)(hw:∀Z G H Q ρ d,OR X.K own G H Z ρ->fs ρ=some d->(∀v G' H',Ed G H G' H'->Bc X.K G' d v->Q v H')->t Z H Q):DA X own es fs:=⟨λp J s Z H Q I ⟨G,ρ,d,er,e,k⟩=>h p J s Z H Q I nW_⟩
def nO{t:TT}(h:PT X e t)(hw:v4!):DT X own e ft:=v3_
def c4z{t:TT}(h:PW X e t)(hw:v4!):DW X own e ft:=⟨λwh J s Z H Q I ⟨G,ρ,d,er,e,k⟩=>h wh J s Z H Q I nW_⟩
nonrec def cI(f:d_):Ag->Option D:=λρ=>(ah!).bind λd=>if Ii d then some d else none
def a8z(h:DE X [] e f):DE X own e (cI f):=Ja h.ok λZ G H Q ρ d er e k=>by
 obtain⟨d',e1,e2⟩:=AB.mp e;split at e2
 .rename_i hn;cases e2;refine⟨Uq own Z G H,ρ,d,er.full,e1,λv G' H' x r=>?_⟩;have RM:∀b,b∈Rt own Z->∃vs,G' b=some dj_:=λb O=>by
   show"!P";refine⟨vs,x.g _ _ ?_⟩;unfold Uq;rw[AQ O];exact h3
  have hG:∀b,b∈Rt own Z->G b=none:=λb O=>by
   show"!P";exact h4
  refine k v (λb=>if b∈Rt own Z then none else G' b) H' ⟨λb o z=>?_,x.h,λb o z=>?_,λb z=>?_⟩ (Bl.mapT (λa vs q=>?_) d v hn r)
  .have O:b∉Rt own Z:=λO=>by rw[hG b O]at z;cases z
   show nY_=some o;rw[AI O];refine x.g _ _ ?_;unfold Uq;rw[AI O];exact z
  .have z':nY_=some o:=z;split at z'
   .cases z'
   .exact x.sub _ _ z'
  .have z':nY_≠none:=z;split at z'
   .exact absurd rfl z'
   .rename_i O;rcases x.new b z' with y|y
    .unfold Uq at y;rw[AI O]at y;exact .inl y
    .exact .inr y
  .have ne:∀u,G' a=some u->(∀ws,u≠.lst ws)->(if a∈Rt own Z then none else G' a)=some u:=λu e1 hu=>by
    rw[AI (λO=>by obtain⟨ws,e2⟩:=RM a O;rw[e1]at e2;exact hu ws (BZ e2))];exact e1
   rcases q with(q|⟨o,q⟩)|q
   .exact .inl (.inl (ne _ q λ_ z=>nomatch z))
   .exact .inl (.inr ⟨o,ne _ q λ_ z=>nomatch z⟩)
   .exact .inr q
 .cases e2
nonrec def Aa(i:Nat):Ag->Option D:=λρ=>(ρ[i]?).join
nonrec def fC(d:D):Ag->Option D:=λ_=>some d
def join_some{ρ:Ag}{i:Nat}(h:(ρ[i]?).join=some d):ρ[i]?=some d6!:=by
 cases z:ρ[i]? with
 |none=>rw[z]at h;cases h
 |some o=>rw[z]at h;exact congrArg some h
def Ab(i:Nat){x:Str}(hi:bm_:=by decide)(hN:ai_:=by rfl)(hv:cY_:=by first|exact Or.inl rfl|exact Or.inr a_|exact Or.inr bn!)(hd:F_:=by decide)
  (bv:cZ!:=by decide):DE X own cZ_ (Aa i):=
 Ja jM! λZ G H Q ρ d er e k=>let⟨v,B,Y⟩:=er.at_ i d (join_some e) hi;⟨v,B,k v G H gU_ Y⟩
def b7y{t:TE}(h:ic_)(ht:∀Z H Q,Q v H->t Z H Q)(r:∀H,Bl X.K H d v):DE X own e (fC d):=
 Ja h λZ G H Q ρ d' er e' k=>by
  cases e';exact ht Z H Q (k v G H gU_ (r G))
def Ae{i:Int}{j:Nat}:DE X own ro! (fC bd_):=b7y c6n gV! λ_=>Bl.int
def Be{j:Nat}:DE X own (.Constant jG_ j pos) (fC jG_):=b7y b4u gV! λ_=>Bl.str
def On{i:Bool}{j:Nat}:DE X own (.Constant (.bool i) j pos) (fC (.bl i)):=b7y d1y gV! λ_=>Bl.bl
def Gx{j:Nat}:DE X own rp_ cf!:=b7y c6m gV! λ_=>Bl.non
def c2y{x:Str}{i:Int}(hg:R_)(hm:X.mg x=some dC!)(hd:F_:=by decide):DE X own cZ_ (fC bd_):=
 b7y (c0z (v:=V.int i) hg hm nw_ hd) gV! λ_=>Bl.int
nonrec def f2(g:aX!)(fa fb:d_):Ag->Option D:=λρ=>(d8_).bind λx=>(gV_).bind λy=>g x y
nonrec def Pb(K:W.Frag)(r:R2)(g:aX!):Prop:=∀{x y:V} {dx dy d:D} {G H:Hp} {Q:VK},Cr G H->Bl K G dx x->Bl K G dy y->g dx dy=some d->jO!->r x y H Q
def two{g:aX!}{r:R2}(hg:d9!){Z:St}{G H:Hp}{Q:VK}{ρ:Ag}(er:v7!)(e:f2 g fa fb ρ=some d)(k:∀v G' H',Ed G H G' H'->Bl X.K G' d v->Q v H'):
  tOp r (tD X.K own fa) (tD X.K own fb) Z H Q:=by
 unfold f2 at e;show"!;";obtain⟨y,e2,e⟩:=AB.mp e;exact⟨G,ρ,x,er,e1,λu G1 H1 s1 r1=>⟨G1,ρ,y,dk_,e2,λw G2 H2 s2 r2=>hg s2.sub gW! r2 e λv G' H' s3 r3=>k v G' H' (s1.trans gW_) r3⟩⟩
def Bk{op:Operator}{r:R2}{g:aX!}(ho:mq_)(hg:d9!)(ha:R!)(O:cf_):DE X own mr! jO_:=
 Ja sp! λZ G H Q ρ d er e k=>two hg er e k
def Ld{op:CmpOp}{r:R2}{g:aX!}(ho:b3_)(hg:d9!)(ha:R!)(O:cf_)(hm:dI_):DE X own dJ! jO_:=
 Ja v8_ λZ G H Q ρ d er e k=>two hg er e k
def Av{r:R2}{g:aX!}(hr:je!)(hg:d9!)(ha:R!)(O:cf_)(hs:jK b):DE X own nf_ jO_:=
 Ja v9_ λZ G H Q ρ d er e k=>two hg er e k
nonrec def fT(f:d_):Ag->Option Bool:=λρ=>(ah!).bind λd=>match d with|.bl b=>some b|_=>none
def Tn{ρ:Ag}{b:Bool}(h:fT f ρ=some b):f ρ=some bH_:=by unfold fT at h;obtain⟨d,e,h⟩:=AB.mp h;cases d<;>first|(cases h;exact e)|cases h
def Cw{op:CmpOp}{r:R2}{g:aX!}(ho:b3_)(hg:d9!)(ha:R!)(O:cf_)(hm:dI_):DT X own dJ! (fT jO_):=
 nO wa! λZ G H Q ρ d er e k=>two (own:=own) (Q:=v9!) hg er (Tn e) λv G' H' s' r'=>by
  cases Fo r';exact wa_
def Kg(h:dl!)(he:id!:=by intro _;rfl):DT X own e (fT f):=
 nO (b4g h.ok he) λZ G H Q ρ d er e k=>⟨G,ρ,.bl d,er,Tn e,λv G' H' s' r'=>by
  cases Fo r';exact wa_⟩
nonrec def a9r:D->Option Bool
 |.lst xs=>some (! dQ!)
 |.tup xs=>some (! dQ!)
 |.bl b=>some b
 |.int i=>some gl_
 |.non=>some false
 |_=>none
def gK{K:W.Frag}{H:Hp}{ds:b_}{vs:k_}(h:cF_):(!ds.isEmpty)=!vs.isEmpty:=by have:=Aq h;cases ds<;>cases vs<;>simp_all
def a1n(h:dl!)(he:id!:=by intro _;rfl):DT X own e (λρ=>(ah!).bind a9r):=
 nO (b4h h.ok he) λZ G H Q ρ b er e k=>by
  obtain⟨d,e1,e2⟩:=AB.mp e;refine⟨G,ρ,d,er,e1,λv G' H' s' r'=>⟨b,?_,nZ_⟩⟩;cases d with
  |non=>cases Ip r';cases e2;exact(rfl:false=false)
  |bl x=>cases Fo r';cases e2;exact rfl
  |int i=>cases Bp r';cases e2;exact(rfl:gl_=gl_)
  |str x=>cases e2
  |fn a=>cases e2
  |dk a=>cases e2
  |tup xs=>
   obtain⟨a,vs,e3,q,r3⟩:=Cz r';subst e3;cases e2;exact .inr (.inl ⟨vs,Df s'.sub q,gK r3⟩)
  |lst xs=>
   obtain⟨a,vs,e3,q,r3⟩:=Cp r';subst e3;cases e2;exact .inl ⟨vs,s'.sub.seq q,gK r3⟩
nonrec def Gb(ft fu:ag_):Ag->Option Bool:=λρ=>(gX!).bind λb=>if b then fu ρ else some false
nonrec def Ui(ft fu:ag_):Ag->Option Bool:=λρ=>(gX!).bind λb=>if b then some true else fu ρ
nonrec def Fk(ft:ag_):Ag->Option Bool:=λρ=>(gX!).map (!·)
variable{rest:List Expr}
def cN(h:gX_):DW X own lX_ ft:=wb_
def aA(h:gX_):DW X own lY! ft:=wc!
def nN(ha:gX_)(O:DW X own eB_ fu):DW X own eC! (Gb ft fu):=
 c4z wc_ λZ G H Q ρ d er e k=>by
  obtain⟨x,e1,e⟩:=AB.mp e;refine n1!;cases x with
  |true=>exact Wi wd_
  |false=>cases e;exact Wj (k G1 H1 s1)
def nM(ha:gX_)(O:DW X own eC_ fu):DW X own eD! (Ui ft fu):=
 c4z we_ λZ G H Q ρ d er e k=>by
  obtain⟨x,e1,e⟩:=AB.mp e;refine n1!;cases x with
  |false=>exact Wj wd_
  |true=>cases e;exact Wi (k G1 H1 s1)
def iG(h:DW X own e ft):DT X own e ft:=⟨h.ok.pt⟩
def Ma(h:gX_):DT X own eD_ (Fk ft):=
 nO (b4i h.ok) λZ G H Q ρ d er e k=>by
  obtain⟨x,e1,rfl⟩:=AO.mp e;exact⟨G,ρ,x,er,e1,λG1 H1 s1=>k G1 H1 s1⟩
nonrec def Fs(fa fb:d_):Ag->Option D:=λρ=>(n2_).bind λb=>if b then fb ρ else some au_
nonrec def Jl(fa fb:d_):Ag->Option D:=λρ=>(n2_).bind λb=>if b then some E! else fb ρ
nonrec def Ho(fa:d_):Ag->Option D:=λρ=>(n2_).map λb=>.bl (!b)
def Oh{op:BoolOp}(h:R!):DE X own l0_ fa:=wf_
def Tq(ha:R!)(O:DE X own eB_ fb):DE X own eC! (Fs fa fb):=
 Ja wg! λZ G H Q ρ d er e k=>by
  obtain⟨x,e1,e⟩:=AB.mp e;refine n3!;cases Fo r1;refine jQ_;cases x with
  |true=>exact Wi jR!
  |false=>cases e;exact Wj wh_
def sD(ha:R!)(O:DE X own eC_ fb):DE X own eD! (Jl fa fb):=
 Ja wi! λZ G H Q ρ d er e k=>by
  obtain⟨x,e1,e⟩:=AB.mp e;refine n3!;cases Fo r1;refine jQ_;cases x with
  |false=>exact Wj jR!
  |true=>cases e;exact Wi wh_
def c8z(ha:R!):DE X own eD_ (Ho fa):=
 Ja (b4w ha.ok) λZ G H Q ρ d er e k=>by
  obtain⟨x,e1,rfl⟩:=AO.mp e;refine n3!;cases Fo r1;exact⟨x,rfl,wi_⟩
nonrec def Xt(ft:ag_)(fa fb:d_):Ag->Option D:=λρ=>(gX!).bind λb=>if b then fa ρ else fb ρ
def d3m(hc:DT X own c ft)(ha:R!)(O:cf_):DE X own l2! (Xt ft fa fb):=
 Ja wk! λZ G H Q ρ d er e k=>by
  obtain⟨x,e1,e⟩:=AB.mp e;refine n1!;cases x with
  |true=>exact Wi jR!
  |false=>exact Wj jR!
nonrec def f3(g h:aX!)(fa fb fc:d_):Ag->Option D:=λρ=>(d8_).bind λx=>(gV_).bind λy=>(g x y).bind λz=>match z with
 |.bl true=>(fc ρ).bind λw=>h y w
 |.bl false=>some au_
 |_=>none
nonrec def An:Ag->Option aG_:=λ_=>some []
nonrec def Ad(f:d_)(fs:an!):Ag->Option aG_:=λρ=>(ah!).bind λd=>(fg!).bind λds=>some d4_
def Au:DA X own [] An:=b7z Ku λZ G H Q ρ d er e k=>by
 cases e;exact k [] G H gU_ Bc.nil
def Ah(h:dl!)(hs:jS!)(bz:al_:=by rfl):DA X own aK_ (Ad f fs):=
 b7z wk_ λZ G H Q ρ d er e' k=>by
  obtain⟨x,e1,e'⟩:=AB.mp e';obtain⟨xs,e2,e'⟩:=AB.mp e';cases e';exact⟨G,ρ,x,er,e1,λv G1 H1 s1 r1=>⟨G1,ρ,xs,dk_,e2,λvs G2 H2 s2 r2=>k _ G2 H2 dl_ (Bc.cons gW! r2)⟩⟩
nonrec def Bz(fs:an!):Ag->Option D:=λρ=>(fg!).bind λds=>if f_<=1000 then some di! else none
nonrec def Hq(fs:an!):Ag->Option D:=λρ=>(fg!).bind λds=>if f_<=1000 then some cd! else none
def Lw{n:Nat}(h:n<=1000):n<=sizeLine:=FK (a9u h)
def Fw{x1:Nat}(h:jS!):DE X own tr_ (Bz fs):=
 Ja (b4t h.ok) λZ G H Q ρ d er e k=>by
  show"!J"
  .show"!B";refine⟨G,ρ,ds,er,e1,λvs G1 H1 s1 r1=>⟨wl!,λp hp=>k _ _ _ wl_ (Jm wm! r1)⟩⟩
  .cases e
def fA(h:jS!):DE X own iV! (Hq fs):=
 Ja jS_ λZ G H Q ρ d er e k=>by
  show"!J"
  .show"!B";refine⟨G,ρ,ds,er,e1,λvs G1 H1 s1 r1=>⟨wl!,λp hp=>k _ _ _ wl_ (Ew wm! r1)⟩⟩
  .cases e
nonrec def Wy(K:W.Frag)(r:cw!)(g:W_):Prop:=∀{vs:k_} {ds:b_} {d:D} {G H:Hp} {Q:VK},Cr G H->Bc K G ds vs->g ds=some d->jO!->r vs H Q
nonrec def f1(g:W_)(fs:an!):Ag->Option D:=λρ=>(fg!).bind g
def Dy{id:String}{x:Str}{r:cw!}{g:W_}(hc:m1_)(hd:Wy X.K r g)(hg:R_)(hm:ct_)(hv:m2!)(ha:gZ_)(hn:cu!:=by decide)
  (be:F_:=by decide)(he:al_:=by rfl)(av:aT_:=by rfl):DE X own bi! jT!:=
 Ja wn! λZ G H Q ρ d er e' k=>by
  show"#3";exact wn_
def b1s{T:String}{x:Str}{r:cw!}{g:W_}(hc:m2_)(hd:Wy X.K r g)(hg:R_)(hm:ct_)(hv:i3_)(ha:gZ_)(hn:cu!:=by decide)
  (be:F_:=by decide)(he:al_:=by rfl)(av:aT_:=by rfl):DE X own bi! jT!:=
 Ja wo! λZ G H Q ρ d er e' k=>by
  show"#3";exact wn_
nonrec def spF(K:W.Frag)(n:Nat)(g:W_):Sp:=λvs H Q _=>by!=n/\∃G ds d,Cr G H/\Bc K G ds vs/\g ds=some d/\∀v G' H',Ed G H G' H'->Bl K G' d v->Q v H'
def c3b{k:Nat}{ps:k!}{g:W_}{x:Str}(F:Km X.prog X.w X.K X.mg X.base iL k σ fd ps wo_)(hr:b6!)(hg:R_)(hm:X.mg x=some bP_)(hk:W.keepIn X.K bP_=true)
  (O:jT_)(ha:gZ_)(hn:wp!:=by rfl)(ak:wp_)
  (be:F_:=by decide)(he:al_:=by rfl)(av:aT_:=by rfl):
  DE X own bi! jT!:=
 Ja (a7p F hr hg hm hk O .nil lR ha.ok be he av) λZ G H Q ρ d er e' k=>by
  show"#3";refine⟨G,ρ,ds,er,e1,λvs G1 H1 s1 r1=>?_⟩;show spF X.K ps.length g (vs++[]) H1 Q E0;rw[BL];exact⟨by rw[<-Aq r1];exact ak ρ ds e1,G1,ds,d,s1.sub,r1,e',wh!⟩
end
def By{ρ:Ag}{ds:b_}(h:An ρ=some ds):f_=0:=by cases h;rfl
def Aw{f:d_}{fs:an!}{n:Nat}(hf:wr!):∀(ρ:Ag) (ds:b_),Ad f fs ρ=some ds->f_=n+1:=λρ ds e=>by
 show"!;";obtain⟨xs,e2,e⟩:=AB.mp e;cases e;rw[AJ,hf ρ xs e2]
def Zj{h:Heap}{its:ab!}(p:PlainL h a its):∃n sl,h.get? a=some {cls:=.type "list",dict:=none,data:=.seq its n,slots:=sl}:=by obtain⟨⟨cls,dd,data,sl⟩,n,e,B,Y,h3⟩:=p;simp only at B Y h3;subst B Y h3;exact⟨n,sl,e⟩
section
variable{X:Cx}
nonrec def c4h(K:W.Frag):R2:=λx y H Q=>∃l b xs zs,x=.ref l/\y=.ref b/\Jf K H l xs/\Jf K H b zs/\i_+zs.length<=sizeLine/\∀p,H p=none->Q b5_ (upd H p u5_)
def a7u:Md X eJ! (c4h X.K):=by
 intro J s Z H x y v u Q I rx ry h;obtain⟨l,b,xs,zs,rfl,rfl,hH,hB,hz,q⟩:=h;cases rx;cases ry;obtain⟨its,r,pl,z⟩:=I.list hH;obtain⟨gj,r2,RN,z2⟩:=I.list hB;obtain⟨n,sl,e⟩:=Zj pl;obtain⟨n2,jd,e2⟩:=Zj RN;have B:=aC!;have Y:=r2.length;refine concat_meets dc_ ⟨_,e2,rfl⟩ PySem.noFill_list_add PySem.seq_list_add PySem.F.slot_list_add PySem.F.entry_list_add (PySem.F.args_list_add_2 _ _)
  (list_addW l b its.toArray gj.toArray n n2 none none sl jd n7!) ⟨e,e2,?_⟩
 have ea:aQ_++gj.toArray=(its++gj).toArray:=by simp
 rw[ea];exact⟨.ref _,_,I.lnew (t':=s.toks) (r.append r2) ws!,rfl,q _ I.fresh⟩
nonrec def b3t(K:W.Frag):R2:=λx y H Q=>∃a b ys,x=.ref a/\y=.ref b/\Lj K H a []/\Lj K H b ys/\Q dV_ H
def b5e:Md X eJ! (b3t X.K):=by
 intro J s Z H x y v u Q I rx ry h;obtain⟨a,b,ys,rfl,rfl,ha,O,q⟩:=h;cases rx;cases ry;obtain⟨its,r1,p1,_⟩:=I.tuple ha;obtain⟨gj,r2,p2,_⟩:=I.tuple O;obtain⟨⟨cls,dd,data,sl⟩,ho,hc,n,hd⟩:=id p1;obtain⟨⟨LS,lf,data2,jd⟩,je,jf,n2,jg⟩:=id p2;simp only at hc hd jf jg;subst hc hd jf jg;have e0:its=[]:=r1.nil_iff.mpr rfl;exact concat_meets i5! i5_ noFill_tuple_add seq_tuple_add IA HR (HN _ _)
  (tuple_addW0 a b its.toArray gj.toArray n n2 dd lf sl jd (by simp[e0])) ⟨ho,je,⟨.ref b,H,I,rfl,q⟩⟩
abbrev big:Nat:=100000
def Ek{n:Nat}(h:n<=big):n<=sizeLine:=BN h ws_
nonrec def Bb:D->D->Option D
 |.int i,.int j=>some (.int (i+j))
 |.str x,.str y=>if eN!+cw_<=big then some (.str (x++y))else none
 |.tup xs,.tup ys=>if i_+M_<=big then some (.tup fT_)else none
 |.lst xs,.lst ys=>if i_+M_<=big then some oa_ else none
 |_,_=>none
nonrec def tX(K:W.Frag):R2:=λx y H Q=>tW (λi j=>.int (i+j)) x y H Q\/((∃i j,x=.str i/\y=.str j/\i.length+j.length<=sizeLine/\Q (.str (i++j)) H)\/(c4g K x y H Q\/(b3t K x y H Q\/c4h K x y H Q)))
def Ay:Md X eJ! (tX X.K):=c6x.or (a4a.or (c1g.or (b5e.or a7u)))
def Cq{K:W.Frag}:Pb K (tX K) Bb:=by
 show"!0";unfold Bb at e;show"!5"
 .show"!d";exact .inl ⟨_,_,rfl,rfl,ec_⟩
 .cases Dj rx;cases Dj ry;show"!5"
  .show"!B";exact .inr (.inl ⟨_,_,rfl,rfl,Ek hl,g1_⟩)
  .cases e
 .show"!X";obtain⟨b,ws,rfl,qb,rb⟩:=Cz ry;show"!5"
  .show"!B";have l1:=Aq ra;have l2:=Aq rb;by_cases hv:vs=[]
   .subst hv;refine .inr (.inr (.inr (.inl ⟨a,b,ws,rfl,rfl,jV!,oc!,k _ G H aP! ?_⟩)));have:(_:b_)=[]:=GE.mp l1;rw[this,CZ];exact Bl.tup qb rb
   .refine .inr (.inr (.inl ⟨a,b,vs,ws,rfl,rfl,jV!,oc!,hv,by rw[<-l1,<-l2];exact Ek hl,λhw=>?_,λhw p hp=>?_⟩))
    .subst hw;have:(_:b_)=[]:=GE.mp l2;refine k _ G H aP! ?_;rw[this,BL];exact Bl.tup qa ra
    .exact k _ _ _ g2! (Jm fg_ (Fm ra rb))
  .cases e
 .show"#'";obtain⟨b,ws,rfl,qb,rb⟩:=Cp ry;show"!5"
  .show"!B";exact .inr (.inr (.inr (.inr ⟨a,b,vs,ws,rfl,rfl,sub.seq qa,sub.seq qb,by rw[<-Aq ra,<-Aq rb];exact Ek hl,λp hp=>k _ _ _ g2! (Ew fg_ (Fm ra rb))⟩)))
  .cases e
 .cases e
nonrec def Hm(c:ms!)(g:jV_):D->D->Option D
 |.int i,.int j=>if c i j=true then some bw_ else none
 |_,_=>none
def uK{K:W.Frag}{C:mq!}{c:ms!}{g:jV_}{gv:iB_}(hc:∀i j,c i j=true->C i j)(hg:wv_):Pb K (rI C gv) (Hm c g):=by
 show"!0";unfold Hm at e;show"!5"
 .cases Bp rx;cases Bp ry;show"!5"
  .rename_i h;cases e;exact⟨_,_,rfl,rfl,hc _ _ h,ww!⟩
  .cases e
 .cases e
nonrec def Eo(g:jV_):D->D->Option D
 |.int i,.int j=>some bw_
 |_,_=>none
def iV{K:W.Frag}{g:jV_}{gv:iB_}(hg:wv_):Pb K (tW gv) (Eo g):=by
 show"!0";unfold Eo at e;show"!5"
 .show"!d";exact⟨_,_,rfl,rfl,ww!⟩
 .cases e
nonrec def Gr:D->D->Option D:=Eo λi j=>.int (i - j)
def Zq{K:W.Frag}:Pb K sr_ Gr:=iV λ_ _ _=>Bl.int
nonrec def zY(i j:Int):Bool:=(decide (-iC_<i)&&decide (i<2 ^ 64))||(decide (-iC_<j)&&decide (j<2 ^ 64))
def c7d{K:W.Frag}:Pb K mt_ (Hm zY λi j=>.int (i*j)):=uK (λi j h=>by
 unfold zY at h;simp only[Bool.or_eq_true,BH,BM]at h;exact h) λ_ _ _=>Bl.int
def c7e{K:W.Frag}:Pb K mu_ (Hm oe! λi j=>.int (i%j)):=uK (λi j h=>by simpa using h) λ_ _ _=>Bl.int
def c1l{K:W.Frag}:Pb K mu! (Hm ww_ λi j=>.int (i / j)):=uK (λi j h=>by
 simp only[BH,BM]at h;exact h) λ_ _ _=>Bl.int
def c7c{K:W.Frag}:Pb K mw! (Hm wx! λi j=>.int mv_):=uK (λi j h=>by
 simp only[BH,BM]at h;exact⟨h.1.1,h.1.2,h.2⟩) λ_ _ _=>Bl.int
def d2f{K:W.Frag}:Pb K mx_ (Eo λi j=>.bl mx!):=iV λ_ _ _=>Bl.bl
def d2h{K:W.Frag}:Pb K mz_ (Eo λi j=>.bl pG_):=iV λ_ _ _=>Bl.bl
def d2i{K:W.Frag}:Pb K mA_ (Eo λi j=>.bl mA!):=iV λ_ _ _=>Bl.bl
nonrec def qE(x y:Str):Bool:=!decide (y.cps.toList<x.cps.toList)
def b0q:Md X my! (λx y H Q=>∃i j,x=.str i/\y=.str j/\Q wy! H):=by intro J s Z H x y v u Q I rx ry h;obtain⟨i,j,rfl,rfl,q⟩:=h;obtain⟨t,rfl⟩:=rx;obtain⟨t',rfl⟩:=ry;exact PySem.P.le_str (Jd I q rfl)
nonrec def Fb:D->Bool
 |.non=>true
 |_=>false
nonrec def Dw:D->D->Option D
 |x,.non=>some (.bl (Fb x))
 |_,_=>none
def qP{K:W.Frag}{H:Hp}(r:Bl K H d x):decide (x=V.non)=Fb d:=by
 cases d with
 |non=>cases Ip r;rfl
 |bl b=>cases Fo r;rfl
 |int b=>cases Bp r;rfl
 |str b=>cases Dj r;rfl
 |tup b=>obtain⟨a,vs,rfl,_⟩:=Cz r;rfl
 |lst b=>obtain⟨a,vs,rfl,_⟩:=Cp r;rfl
 |fn b=>cases Kt r;rfl
 |dk b=>obtain⟨a,rfl,_⟩:=c5x r;rfl
def a4j{K:W.Frag}:Pb K sw_ Dw:=by
 show"!0";unfold Dw at e;show"!5"
 .show"#L"
 .cases e
nonrec def Bg:D->D->Option D
 |x,.non=>some (.bl (!Fb x))
 |_,_=>none
def Xj{K:W.Frag}:Pb K sy! Bg:=by
 show"!0";unfold Bg at e;show"!5"
 .show"#L"
 .cases e
nonrec def Ar:D->D->Option D
 |.tup xs,.int i=>Gf xs i
 |.lst xs,.int i=>Gf xs i
 |.str x,.int i=>if eN!<=big then(Gf x.cps.toList i).map λc=>.str am! else none
 |_,_=>none
def aY{K:W.Frag}{H:Hp}{i:Int}(r:cF_)(h:Gf ds i=some d):∃v,Gf vs i=some v/\Bl K H d v:=by unfold Gf at h ⊢;obtain⟨j,B,Y⟩:=AB.mp h;obtain⟨v,h3,h4⟩:=Kj r Y;exact⟨v,AB.mpr ⟨j,by rw[<-Aq r];exact B,h3⟩,h4⟩
def At{K:W.Frag}:Pb K (rIx K) Ar:=by
 show"!0";unfold Ar at e;show"!5"
 .show"!X";cases Bp ry;obtain⟨v,B,Y⟩:=aY ra e;exact .inr (.inl ⟨a,vs,_,v,rfl,rfl,jV!,B,k v G H aP! Y⟩)
 .show"#'";cases Bp ry;obtain⟨v,B,Y⟩:=aY ra e;exact .inl ⟨a,vs,_,v,rfl,rfl,sub.seq qa,B,k v G H aP! Y⟩
 .cases Dj rx;cases Bp ry;show"!5"
  .rename_i hl;obtain⟨c,B,rfl⟩:=AO.mp e;exact .inr (.inr ⟨_,_,c,rfl,rfl,Ek hl,B,g1_⟩)
  .cases e
 .cases e
nonrec def Ge{α:Type}(xs:K_)(lo hi:a7!):List α:=(xs.drop m8_).take m9!
def lC{K:W.Frag}{H:Hp}(r:cF_)(lo hi:a7!):Bc K H (Ge ds lo hi) (a1x vs lo hi):=by unfold Ge a1x;rw[Aq r];exact Xb _ (dU _ r)
end
section
variable{X:Cx}{own:List Nat}{e a b c:Expr}{es:List Expr}{pos p2:Pos}{f fa fb fc:Ag->Option D}{fs:Ag->Option (List D)}{ft fu:Ag->Option Bool}{ol oh:Ag->Option (Option Int)}
inductive toD(K:W.Frag)(own:j_)(o:jW!)(Z:St)(H:Hp)(Q:uc_):Prop
 |mk (G:Hp) (ρ:Ag) (i:a7!) (r:ce!) (e:o ρ=some i) (k:∀G' H',Ed G H G' H'->Q i H'):toD K own o Z H Q
nonrec def Bw:Ag->Option og!:=λ_=>some none
nonrec def Bv(f:d_):Ag->Option og!:=λρ=>(ah!).bind λd=>match d with|.int i=>some (some i)|_=>none
def Iv:PO X none (toD X.K own Bw):=λJ s Z H Q I ⟨G,ρ,i,er,e,k⟩=>by
 cases e;exact c0t J s Z H Q I (k G H gU_)
def Iu(h:dl!):PO X ij! (toD X.K own (Bv f)):=λJ s Z H Q I ⟨G,ρ,i,er,e',k⟩=>by
 obtain⟨d,e1,e2⟩:=AB.mp e';refine c0s h.ok J s Z H Q I ⟨G,ρ,d,er,e1,λv G' H' s' r'=>?_⟩;cases d<;>first
  |cases e2
  |skip
 cases Bp r';exact⟨_,rfl,nZ_⟩
nonrec def Cy:D->Option Int->Option Int->Option D
 |.tup xs,lo,hi=>if HT.sIx xs.length 0 lo=0/\HT.sIx xs.length xs.length hi=i_ then none else some (.tup (Ge xs lo hi))
 |.lst xs,lo,hi=>some (.lst (Ge xs lo hi))
 |_,_,_=>none
nonrec def Je(f:d_)(ol oh:jW!):Ag->Option D:=λρ=>(ah!).bind λd=>(ol ρ).bind λl=>(oh ρ).bind λh=>Cy d l h
def Hs{lo hi:m7!}(ha:R!)(hl:wy_)(hh:wz!):DE X own wz_ (Je fa ol oh):=
 Ja wA! λZ G H Q ρ d er e k=>by
  show"!;";obtain⟨l,e2,e⟩:=AB.mp e;obtain⟨h,e3,e⟩:=AB.mp e;refine⟨G,ρ,x,er,e1,λv G1 H1 s1 r1=>⟨G1,ρ,l,dk_,e2,λG2 H2 s2=>⟨G2,ρ,h,er.grow dl_,e3,wA_⟩⟩⟩;have r3:Bl X.K G3 x v:=(gW!).mono s3.g;have s4:Ed G H G3 H3:=s1.trans gW_;have sub:=s4.sub;unfold Cy at e;show"!5"
  .show"!5"
   .cases e
   .rename_i hw;cases e;obtain⟨p,vs,rfl,q,rr⟩:=Cz r3;refine .inl ⟨p,vs,rfl,Df sub q,?_,λp hp=>k _ _ _ wB! (Jm fg_ og_)⟩;rw[<-Aq rr];exact hw
  .cases e;obtain⟨p,vs,rfl,q,rr⟩:=Cp r3;exact .inr ⟨p,vs,rfl,jW_,λp hp=>k _ _ _ wB! (Ew fg_ og_)⟩
  .cases e
nonrec def tyD:D->Value
 |.non=>.type "NoneType"
 |.bl _=>.type "bool"
 |.int _=>.type "int"
 |.str _=>.type "str"
 |.tup _=>.type "tuple"
 |.lst _=>.type "list"
 |.fn _=>.none
 |.dk _=>.none
nonrec def d1r(K:W.Frag)(T:String):List V->Hp->VK->Prop:=λxs H Q=>∃x d b,xs=[x,.ty T]/\Bl K H d x/\W.kitOne K (tyD d) eX_=some b/\(∀a,d≠.fn a)/\(∀a,d≠.dk a)/\Q bH_ H
def b8i{T:String}:Oq X oh_ (d1r X.K T):=by
 intro J s Z H xs us Q I r h;obtain⟨x,d,b,rfl,rx,e,hf,yc,q⟩:=h;obtain⟨u,w',rfl,r1,r2⟩:=a6f r;cases r2;have fin:∀tk,EP X J Z Q lT! {s with toks:=tk}:=λtk=>⟨.bl b,H,I.tok tk,rfl,q⟩;cases d with
 |non=>cases Ip rx;cases r1;exact JZ W.kitx_none I.kIn True.intro e fh! fin
 |bl y=>cases Fo rx;cases r1;exact JZ W.kitx_bool I.kIn True.intro e fh! fin
 |int y=>cases Bp rx;obtain⟨t,rfl⟩:=r1;exact JZ W.kitx_int I.kIn True.intro e fh! fin
 |str y=>cases Dj rx;obtain⟨t,rfl⟩:=r1;exact JZ W.kitx_str I.kIn True.intro e fh! fin
 |tup ys=>
  show"!X";cases r1;obtain⟨its,_,⟨o,B,Y,_⟩,_⟩:=I.tuple qa;exact JZ W.kitx_tuple I.kIn oi! e fh! fin
 |lst ys=>
  show"#'";cases r1;obtain⟨its,_,pl,_⟩:=I.list qa;obtain⟨o,n,B,Y,_⟩:=pl;exact JZ W.kitx_list I.kIn oi! e fh! fin
 |fn a=>exact absurd rfl (hf a)
 |dk a=>exact absurd rfl (yc a)
nonrec def Ky(T:String):D->Option Bool
 |.non=>some (T=="NoneType")
 |.bl _=>some (T=="bool"||T=="int")
 |.int _=>some (T=="int")
 |.str _=>some (T=="str")
 |.tup _=>some (T=="tuple")
 |.lst _=>some (T=="list")
 |.fn _=>none
 |.dk _=>none
structure b2a(K:W.Frag)(T:String):Prop where
 ok:∀d b,Ky T d=some b->W.kitOne K (tyD d) eX_=some b
def vD:W.kitOne [] g2_ bB!=some ("int"=="NoneType"):=by decide+kernel
def a0j:W.kitOne [] bB_ bB!=some ("int"=="bool"||"int"=="int"):=by decide+kernel
def vH:W.kitOne [] bB! bB!=some ("int"=="int"):=by decide+kernel
def vB:W.kitOne [] a4_ bB!=some ("int"=="str"):=by decide+kernel
def uZ:W.kitOne [] bC! bB!=some ("int"=="tuple"):=by decide+kernel
def vF:W.kitOne [] a8! bB!=some ("int"=="list"):=by decide+kernel
def c2c{K:W.Frag}:b2a K "int":=⟨λd b h=>match d,b,h with
 |.non,b,h=>by cases h;exact vD
 |.bl _,b,h=>by cases h;exact a0j
 |.int _,b,h=>by cases h;exact vH
 |.str _,b,h=>by cases h;exact vB
 |.tup _,b,h=>by cases h;exact uZ
 |.lst _,b,h=>by cases h;exact vF
 |.fn _,b,h=>by cases h
 |.dk _,b,h=>by cases h⟩
def pM:W.kitOne [] g2_ bB_=some ("bool"=="NoneType"):=by decide+kernel
def vJ:W.kitOne [] bB_ bB_=some ("bool"=="bool"||"bool"=="int"):=by decide+kernel
def pQ:W.kitOne [] bB! bB_=some ("bool"=="int"):=by decide+kernel
def pK:W.kitOne [] a4_ bB_=some ("bool"=="str"):=by decide+kernel
def pH:W.kitOne [] bC! bB_=some ("bool"=="tuple"):=by decide+kernel
def pO:W.kitOne [] a8! bB_=some ("bool"=="list"):=by decide+kernel
def b6u{K:W.Frag}:b2a K "bool":=⟨λd b h=>match d,b,h with
 |.non,b,h=>by cases h;exact pM
 |.bl _,b,h=>by cases h;exact vJ
 |.int _,b,h=>by cases h;exact pQ
 |.str _,b,h=>by cases h;exact pK
 |.tup _,b,h=>by cases h;exact pH
 |.lst _,b,h=>by cases h;exact pO
 |.fn _,b,h=>by cases h
 |.dk _,b,h=>by cases h⟩
def vC:W.kitOne [] g2_ a4_=some ("str"=="NoneType"):=by decide+kernel
def a0i:W.kitOne [] bB_ a4_=some ("str"=="bool"||"str"=="int"):=by decide+kernel
def vG:W.kitOne [] bB! a4_=some ("str"=="int"):=by decide+kernel
def vA:W.kitOne [] a4_ a4_=some ("str"=="str"):=by decide+kernel
def uY:W.kitOne [] bC! a4_=some ("str"=="tuple"):=by decide+kernel
def vE:W.kitOne [] a8! a4_=some ("str"=="list"):=by decide+kernel
def jB{K:W.Frag}:b2a K "str":=⟨λd b h=>match d,b,h with
 |.non,b,h=>by cases h;exact vC
 |.bl _,b,h=>by cases h;exact a0i
 |.int _,b,h=>by cases h;exact vG
 |.str _,b,h=>by cases h;exact vA
 |.tup _,b,h=>by cases h;exact uY
 |.lst _,b,h=>by cases h;exact vE
 |.fn _,b,h=>by cases h
 |.dk _,b,h=>by cases h⟩
def mP:W.kitOne [] g2_ bC!=some ("tuple"=="NoneType"):=by decide+kernel
def pR:W.kitOne [] bB_ bC!=some ("tuple"=="bool"||"tuple"=="int"):=by decide+kernel
def mR:W.kitOne [] bB! bC!=some ("tuple"=="int"):=by decide+kernel
def mO:W.kitOne [] a4_ bC!=some ("tuple"=="str"):=by decide+kernel
def mN:W.kitOne [] bC! bC!=some ("tuple"=="tuple"):=by decide+kernel
def mQ:W.kitOne [] a8! bC!=some ("tuple"=="list"):=by decide+kernel
def Xn{K:W.Frag}:b2a K "tuple":=⟨λd b h=>match d,b,h with
 |.non,b,h=>by cases h;exact mP
 |.bl _,b,h=>by cases h;exact pR
 |.int _,b,h=>by cases h;exact mR
 |.str _,b,h=>by cases h;exact mO
 |.tup _,b,h=>by cases h;exact mN
 |.lst _,b,h=>by cases h;exact mQ
 |.fn _,b,h=>by cases h
 |.dk _,b,h=>by cases h⟩
def pL:W.kitOne [] g2_ a8!=some ("list"=="NoneType"):=by decide+kernel
def vI:W.kitOne [] bB_ a8!=some ("list"=="bool"||"list"=="int"):=by decide+kernel
def pP:W.kitOne [] bB! a8!=some ("list"=="int"):=by decide+kernel
def pJ:W.kitOne [] a4_ a8!=some ("list"=="str"):=by decide+kernel
def pG:W.kitOne [] bC! a8!=some ("list"=="tuple"):=by decide+kernel
def pN:W.kitOne [] a8! a8!=some ("list"=="list"):=by decide+kernel
def b6t{K:W.Frag}:b2a K "list":=⟨λd b h=>match d,b,h with
 |.non,b,h=>by cases h;exact pL
 |.bl _,b,h=>by cases h;exact vI
 |.int _,b,h=>by cases h;exact pP
 |.str _,b,h=>by cases h;exact pJ
 |.tup _,b,h=>by cases h;exact pG
 |.lst _,b,h=>by cases h;exact pN
 |.fn _,b,h=>by cases h
 |.dk _,b,h=>by cases h⟩
nonrec def Gp(T:String)(f:d_):Ag->Option D:=λρ=>(ah!).bind λd=>(Ky T d).map D.bl
def Qg{T:String}{x:Str}(ht:b2a X.K T)(hg:Gl X "isinstance")(hm:X.mg "isinstance"=none)(RO:R_)(yd:ct_)(hv:bootBuiltins "isinstance"=some oh_)(RP:i3_)(ha:R!)
  (ig:cu!:=by decide)(jg:F_:=by decide)
  (he:starEach [a,cH!] X.env=dO_::starEach [cH!] X.env:=by rfl)(pv:starEach [cH!] X.env=(false,eval dm_ X.env)::starEach [] X.env:=by rfl)
  (av:(backTo pos (starEach [cH!] X.env)).any b!=false:=by rfl):DE X own (.Call (.Name "isinstance" p) [a,cH!] [] pos) (Gp T fa):=
 Ja (lQ (r:=d1r X.K T) b8i hg hm hv (Gs ha.ok (Gs (c1a (v:=V.ty T) RO yd RP rfl ig jg) Ku pv) he) c! c! he av) λZ G H Q ρ d er e k=>by
  show"!;";obtain⟨b,e2,rfl⟩:=AO.mp e;exact⟨G,ρ,x,er,e1,λv G1 H1 s1 r1=>⟨v,x,b,rfl,r1.mono s1.sub,ht.ok x b e2,wD!,wD!,wi_⟩⟩
def Hl{K:W.Frag}{H:Hp}(h:Bc K H [d] vs):∃v,vs=[v]/\Bl K H d v:=by obtain⟨v,r,rfl,B,Y⟩:=Dc h;cases Fq Y;exact⟨v,rfl,B⟩
nonrec def Dh:List D->Option D
 |[.tup xs]=>some (.int i_)
 |[.lst xs]=>some (.int i_)
 |[.str x]=>if eN!<=big then some (.int eN!)else none
 |_=>none
def Jr{K:W.Frag}:Wy K wD_ Dh:=by
 show"!>";unfold Dh at e;show"!5"
 .show"#=";exact⟨_,_,rfl,.inr ⟨ws,Df sub q,Aq rr⟩,ec_⟩
 .show"!c";cases e;exact⟨_,_,rfl,.inl ⟨ws,jW_,Aq rr⟩,ec_⟩
 .show"!4";cases Dj rv;show"!5"
  .show"!B";exact⟨_,_,rfl,⟨Ek hl,rfl⟩,ec_⟩
  .cases e
 .cases e
nonrec def Li:List D->Option D
 |[.int i]=>some (.int iL_)
 |_=>none
def c9h{K:W.Frag}:Wy K sJ_ Li:=by
 show"!>";unfold Li at e;show"!5"
 .show"!4";cases Bp rv;cases e;exact⟨_,rfl,ec_⟩
 .cases e
nonrec def c1d:List D->Option D
 |[.str x]=>if eN!=1 then some sM! else none
 |_=>none
def c9g{K:W.Frag}:Wy K sM_ c1d:=by
 show"!>";unfold c1d at e;show"!5"
 .show"!4";cases Dj rv;show"!5"
  .show"!B";exact⟨_,rfl,hl,ec_⟩
  .cases e
 .cases e
nonrec def d5k:List D->Option D
 |[.lst xs]=>some bc_
 |[.tup xs]=>some bc_
 |_=>none
nonrec def c4v:List D->Option D
 |[.lst xs]=>some I!
 |[.tup xs]=>some I!
 |_=>none
def d4v{K:W.Frag}:Wy K wE! c4v:=by
 show"!>";unfold c4v at e;show"!5"
 .show"!c";cases e;exact⟨a,ws,rfl,.inl ok!,wE_⟩
 .show"#=";exact⟨a,ws,rfl,.inr g4!,wE_⟩
 .cases e
def jQ:∀{bs:jX_} {us:h_},Ce (bs.map V.bl) us->us=bs.map Value.bool
 |[],_,.nil=>rfl
 |b::bs,_,.cons r t=>by cases r;rw[jQ t];rfl
nonrec def d1t(K:W.Frag):List V->Hp->VK->Prop:=λxs H Q=>∃(p:Addr) (bs:jX_),xs=gD_/\Jf K H p (bs.map V.bl)/\Q (.bl ok_) H
def b1t:∀(bs:jX_),((List.range bs.length).all λi=>(bs[i]?).getD true)=bs.all id:=λbs=>by
 rw[EJ,DQ,DQ];show"!Q"
 .intro h x L;obtain⟨i,hi,rfl⟩:=IR.mp L;have:=h i (GM.mpr hi);simpa[hi]using this
 .intro h i hi;have dw:=GM.mp hi;simpa[dw]using h bs[i] (CO dw)
def cR(hc:bf_):Oq X wF! (d1t X.K):=by
 intro J s Z H xs us Q I r h;obtain⟨p,bs,rfl,hq,q⟩:=h;obtain⟨u,rfl,r1⟩:=Uz r;cases r1;obtain⟨its,rv,pl,hz⟩:=I.list hq;have e:=jQ rv;subst e;have hl:=pl.isList;have am:p<p!:=by obtain⟨_,e,_⟩:=hl;exact BF e
 refine call_all_walk (wpAny_pyIter_list hl ?_);refine⟨p!,[p!,p],[p!],(jY!).toArray.size,_,_,λi=>(bs[i]?).getD true,rfl,Walks.list (A:=X.A.in1) bg! _ p (BV am) (jY!).toArray,
  ⟨dO!,hl.push _⟩,λi v s' Q' E' hP hQ=>?_,λh' tk hk=>?_⟩
 .have MQ:jY![i]?=some v:=by simpa using hP
  rw[BS]at MQ;obtain⟨b,O,rfl⟩:=AO.mp MQ;simp only[O,Option.getD_some]at hQ;exact CA hQ
 .have e:((List.range (jY!).toArray.size).all λi=>(bs[i]?).getD true)=bs.all id:=by
   rw[AN,AU];exact b1t bs
  rw[e];exact⟨.bl _,H,I.kept (t':=tk) λb x ex=>hk b x (λhm=>by rw[AV.mp hm]at ex;exact EQ _ (BF ex)) (AG _ ex),rfl,q⟩
nonrec def Wu:List D->Option (List Bool)
 |[]=>some []
 |.bl b::r=>(Wu r).map (b::·)
 |_=>none
nonrec def Yd:List D->Option D
 |[.lst xs]=>(Wu xs).map λbs=>.bl ok_
 |_=>none
def qQ{K:W.Frag}{H:Hp}:∀{ds:b_} {vs:k_} {bs:jX_},Bc K H ds vs->Wu ds=some bs->vs=bs.map V.bl
 |[],vs,bs,r,e=>by cases Fq r;cases e;rfl
 |d::ds,vs,bs,r,e=>by
  obtain⟨v,t,rfl,r1,r2⟩:=Dc r;cases d<;>first|cases e|skip
  obtain⟨XW,e1,rfl⟩:=AO.mp e;cases Fo r1;rw[qQ r2 e1];rfl
def wW{K:W.Frag}:Wy K (d1t K) Yd:=by
 show"!>";unfold Yd at e;show"!5"
 .show"!c";obtain⟨bs,e1,rfl⟩:=AO.mp e;have:=qQ rr e1;subst this;exact⟨a,bs,rfl,jW_,ed!⟩
 .cases e
end
nonrec def ItD(K:W.Frag)(ac:It)(ds:b_)(G1:Hp):Prop:=∀(i:Nat) (G' H':Hp),Cr G1 G'->Cr G' H'->
 wG!/\wG_
inductive tiD(K:W.Frag)(own:j_)(fi:an!)(Z:St)(H:Hp)(R:gd!):Prop
 |mk (G:Hp) (ρ:Ag) (ds:b_) (o:ce!) (e:fi ρ=some ds) (k:∀ac G1 H1,Ed G H G1 H1->ItD K ac ds G1->R ac H1):tiD K own fi Z H R
structure DI(X:Cx)(own:j_)(tg iter:Expr)(fi:an!):Prop where
 ok:PI X tg iter (tiD X.K own fi)
section
variable{X:Cx}{own:List Nat}{e a b c tg:Expr}{es:List Expr}{pos p2:Pos}{f fa fb fc:Ag->Option D}{fs fi:Ag->Option (List D)}{ft fu:Ag->Option Bool}
def a1r{wi:TI}(h:PI X tg e wi)(hw:∀Z G H R ρ ds,OR X.K own G H Z ρ->fi ρ=some ds->(∀ac G1 H1,Ed G H G1 H1->ItD X.K ac ds G1->R ac H1)->wi Z H R):DI X own tg e fi:=⟨λJ s Z H R I ⟨G,ρ,ds,er,e,k⟩=>h J s Z H R I (hw Z G H R ρ ds er e k)⟩
nonrec def Iz(f:d_):Ag->Option aG_:=λρ=>(ah!).bind λd=>match d with|.lst xs=>some xs|_=>none
nonrec def d6y(f:d_):Ag->Option aG_:=λρ=>(ah!).bind λd=>match d with|.tup xs=>some xs|_=>none
def a0v{K:W.Frag}{G1:Hp}{ad:Addr}(q:Jf K G1 ad vs)(r:Bc K G1 ds vs):ItD K (Itl K ad) ds G1:=by intro i G' H' s1 s2;have q':Jf K H' ad vs:=s2.seq (s1.seq q);refine⟨cH_,λhi=>⟨vs,q',by rw[<-Aq r,hi];exact AY _⟩⟩;obtain⟨v,B,Y⟩:=Kj r hd;refine⟨⟨vs,v,q',B⟩,ed_⟩;obtain⟨e1,e2⟩:=hy;subst e1;have:=e2 vs q';rw[B]at this;cases this;exact⟨G',jZ!,Y.mono s1⟩
def Mb(h:R!):DI X own tg a (Iz fa):=a1r (a7k h.ok) λZ G H R ρ ds er e k=>by
 obtain⟨d,e1,e2⟩:=AB.mp e;cases d<;>first|cases e2|skip
 refine fj!;obtain⟨p,vs,rfl,q,rr⟩:=Cp r1;exact⟨p,rfl,⟨vs,s1.sub.seq q⟩,k _ G1 H1 s1 (a0v q rr)⟩
nonrec def Hh(n:Nat):List D:=(on!).map λi=>.int (i:Nat)
nonrec def Kd(f:d_):Ag->Option aG_:=λρ=>(ah!).bind λd=>match d with|.int j=>if -1000<=j/\j<=100000 then some (Hh j.toNat)else none|_=>none
def b1g{K:W.Frag}{G1:Hp}{n:Nat}:ItD K (Itr 0 n) (Hh n) G1:=by intro i G' H' s1 s2;unfold Hh;refine wI!;rw[BS]at hd;obtain⟨j,hj,rfl⟩:=AO.mp hd;obtain⟨hl,he⟩:=BA.mp hj;rw[HE]at he;subst he;rw[EY]at hl;refine⟨hl,ed_⟩;obtain⟨e1,e2⟩:=hy;subst e1 e2;refine⟨G',jZ!,?_⟩;rw[Int.zero_add];exact Bl.int
def Nw{pos:Pos}(hg:iw!)(hm:iw_)(h:R!)(hs:r8!:=by rfl)(b6:jZ_:=by rfl):
  DI X own tg r9! (Kd fa):=a1r (b0m hg hm (Gs h.ok Ku b6) hs) λZ G H R ρ ds er e k=>by
 obtain⟨d,e1,e2⟩:=AB.mp e;cases d<;>first|cases e2|skip
 rename_i j;have e3:(if -1000<=j/\j<=100000 then some (Hh j.toNat)else none)=some ds:=e2;split at e3
 .rename_i hj;cases e3;refine fj!;cases Bp r1;exact⟨j,rfl,r!,r!,k _ G1 H1 s1 b1g⟩
 .cases e3
nonrec def Jy(bnd:ae_)(ft:ag_)(fe:d_)(ρ:Ag):List D->Option aG_
 |[]=>some []
 |d::ds=>(j0!).bind λai=>(ft ai).bind λb=>if b then(fe ai).bind λy=>(Jy bnd ft fe ρ ds).map (y::·)else Jy bnd ft fe ρ ds
nonrec def GD(K:W.Frag)(g:TG)(bnd:ae_):Prop:=∀{x:V} {d:D} {Z:St} {G H:Hp} {ρ ai:Ag} {Q:ij_},OR K [] G H Z ρ->Bl K G d x->bnd d ρ=some ai->(∀dr,OR K [] G H dr ai->Le ρ ai->Q dr H)->g x Z H Q
nonrec def Dl(i:Nat):D->Ag->Option Ag:=λd ρ=>match ρ[i]? with|some none=>some bO_|_=>none
def Gw{K:W.Frag}(i:Nat):GD K eF! (Dl i):=by
 intro x d Z G H ρ ai Q er r e k;unfold Dl at e;show"!5"
 .rename_i h;cases e;exact k _ (er.set c_ r) ((Le.refl ρ).set h)
 .cases e
nonrec def Uj(i j:Nat):D->Ag->Option Ag:=λd ρ=>match d with
 |.tup [x,y]=>(Dl i x ρ).bind λai=>Dl j y ai
 |_=>none
def Le.trans{ρ ai bh:Ag}(a:Le ρ ai)(b:Le ai bh):Le ρ bh:=⟨a.1.trans b.1,λi d h=>b.2 i d (a.2 i d h)⟩
def wF{K:W.Frag}(i j:Nat):GD K wI_ (Uj i j):=by
 intro x d Z G H ρ ai Q er r e k;unfold Uj at e;show"!5"
 .obtain⟨bh,e1,e2⟩:=AB.mp e;show"!]";show"!6";refine⟨p,[v1,v2],rfl,Df er.sub q,rfl,v1,[v2],rfl,?_⟩;refine Gw i er r1 e1 λdr mz l1=>⟨v2,[],rfl,?_⟩;exact Gw j mz r2 e2 λc8 cb l2=>⟨rfl,k c8 cb (l1.trans l2)⟩
 .cases e
nonrec def Jq(nl:Nat)(ix:j_)(fi:an!)(bnd:ae_)(ft:ag_)(fe:d_):Ag->Option D:=λρ=>(fi ρ).bind λds=>if f_<=big then(Jy bnd ft fe nV_ ds).map D.lst else none
def c9f{K:W.Frag}{ac:It}{ds:b_}{G1 H1:Hp}{g:TG}{bnd:ae_}{ft:ag_}{fe:d_}{j5:Ag}{rm:St}{Fin:cX_}
  (O:f_<=big)(fh:wJ!)(hg:GD K g bnd)(er:OR K [] G1 H1 rm j5)(e:Jy bnd ft fe j5 ds=some ji)(k:∀ys G' H',Ed G1 H1 G' H'->Bc K G' ji ys->Fin ys H'):
  a9i ac g (ttD K [] ft) (tD K [] fe) Fin rm H1:=by
 refine⟨λi m ys hx H'=>i<=f_/\m=f_ - i/\∃G' ws r,Ed G1 H1 G' H'/\OR K [] G' H' hx j5/\Bc K G' ws ys/\m3_<=i/\Jy bnd ft fe j5 (ds.drop i)=some r/\ws++r=ji,
  ⟨f_,CI _,rfl,G1,[],ji,Ed.refl er.sub,er,Bc.nil,CI _,e,rfl⟩,?_⟩
 rintro i m ys hx H' ⟨hi,rfl,G',ws,r,x,cf,ao,hw,cb,et⟩;refine wJ_;obtain⟨m7,m8⟩:=fh i G' H' x.g cf.sub;by_cases am:i<f_
 .right;have hd:ds[i]?=some ds[i]:=by simp[am]
  have ye:ds.drop i=ds[i]::ds.drop a2!:=EV am;rw[ye]at cb;unfold Jy at cb;obtain⟨ai,e1,cb⟩:=AB.mp cb;obtain⟨b,e2,cb⟩:=AB.mp cb;obtain⟨go,yl⟩:=m7 _ hd;refine⟨go,j0_⟩;obtain⟨G2,x2,r2⟩:=yl v H2 hy;refine hg (cf.grow x2) r2 e1 λdr mz rq=>⟨G2,ai,b,mz,e2,λG3 H3 x3=>?_⟩;have j6:=mz.grow x3;have lg:Ed G1 H1 G3 H3:=x.trans (x2.trans x3);cases b with
  |true=>
   obtain⟨y,e3,cb⟩:=AB.mp cb;obtain⟨zs,e4,rfl⟩:=AO.mp cb;refine Wi ⟨G3,ai,y,j6,e3,λu G4 H4 x4 r4=>⟨_,?_,am,rfl,G4,ws++[y],zs,lg.trans x4,(j6.grow x4).le rq,?_,?_,e4,?_⟩⟩
   .omega
   .exact Fm wK_ (Bc.cons r4 Bc.nil)
   .rw[AT,CG];omega
   .rw[CQ];exact et
  |false=>
   refine Wj ⟨_,?_,am,rfl,G3,ws,r,lg,j6.le rq,(oo_).mono x3.g,r!,cb,et⟩;omega
 .left;have ij:i=f_:=by omega
  refine⟨m8 ij,k ys G' H' x ?_⟩;rw[ij,HY]at cb;cases cb;rw[BL]at et;subst et;exact ao
def Tp{scope:Scope}{NL:k!}{ix:j_}{g:TG}{bnd:ae_}{fe:d_}
  (ce:df!)(b9:df_)(j4:∀y∈ca!,y.2=.local->scope.names.lookup y.1=some .local)
  (ic:gO!)(cap:de_)(m9:jL_)(calm:bf_)(az:DI X own tg iter fi)
  (hg:gO_)(ng:oq!)(hi:∀cl C al bc fp,iJ cb! cr wL!)(he:∀cl C al bc fp,DE cb! [] dm fe)
  (hs:c6_:=by intro _;rfl):
  DE X own gM_ (Jq NL.length ix fi bnd ft fe):=
 Ja wM! λZ G H Q ρ d er e k=>by
  show"!J"
  .rename_i O;obtain⟨ji,e2,rfl⟩:=AO.mp e;refine⟨G,ρ,ds,er,e1,wM_⟩;refine c9f O fh ng ((oq_).cap NL.length ix m9) e2 λys G' H' x r p hp=>?_;exact k _ _ _ (x1.trans (x.trans g5_)) (Ew or! r)
  .cases e
def qV:iJ X [] (ttD X.K [] λ_=>some true):=λJ s Z H Q I ⟨G,ρ,b,er,e,k⟩=>by
 cases e;exact zI J s Z H Q I (k G H gU_)
def d1v(h:DT X [] c ft):iJ X [c] wL!:=zH h.ok
end
inductive Fl where
 |nx (ρ:Ag)|rt (d:D)
structure SR(K:W.Frag)(own:j_)(G0 F0 G H:Hp)(Z:St)(ρ:Ag):Prop where
 or:OR K own G H Z ρ
 ext:Ed G0 F0 G H
 fr:∀i∈own,∀p,Z[i]?=some cd_->F0 p=none
inductive tsD(K:W.Frag)(G0 F0:Hp)(own h2:j_)(f:aI_)(E:a6a)(Z:St)(H:Hp):Prop
 |mk (G:Hp) (ρ:Ag) (r:Fl) (o:fj_) (e:f ρ=some r) (k:match(generalizing:=false) r with
  |.nx ρ'=>∀G' hx H',SR K h2 G0 F0 G' H' hx ρ'->E.nx hx H'
  |.rt d=>∀v G' H',Ed G0 F0 G' H'->Bl K G' d v->E.rt v H'):tsD K G0 F0 own h2 f E Z H
structure DS(X:Cx)(own h2:j_)(st:Stmt)(f:aI_):Prop where
 ok:∀G0 F0,PS X st wN_
structure DSs(X:Cx)(own h2:j_)(st:bH!)(f:aI_):Prop where
 ok:∀G0 F0,PSs X st wN_
section
variable{X:Cx}{own bi jj:List Nat}{st:Stmt}{rest body:List Stmt}{e a b c tg:Expr}{es:List Expr}{pos p2:Pos}{f fa fb fc:Ag->Option D}{fs fi:Ag->Option (List D)}{ft fu:Ag->Option Bool}{q1 q2 q3:Ag->Option Fl}
def c5a{t:TS}(h:ih_)(hw:∀G0 F0 E Z G H ρ r,SR X.K own G0 F0 G H Z ρ->q1 ρ=some r->(match r with
  |.nx ρ'=>∀G' hx H',SR X.K bi G0 F0 G' H' hx ρ'->E.nx hx H'
  |.rt d=>∀v G' H',Ed G0 F0 G' H'->Bl X.K G' d v->E.rt v H')->t E Z H):DS X own bi st q1:=⟨λG0 F0 J s Z H E I ⟨G,ρ,r,er,e,k⟩=>h J s Z H E I (hw G0 F0 E Z G H ρ r er e k)⟩
def SR.grow{K:W.Frag}{G0 F0 G H G' H':Hp}{Z:St}{ρ:Ag}(s:fj_)(x:jJ_):SR K own G0 F0 G' H' Z ρ:=⟨s.or.grow x,s.ext.trans x,s.fr⟩
def SR.set{K:W.Frag}{G0 F0 G H:Hp}{Z:St}{ρ:Ag}{i:Nat}(s:fj_)(hi:bm_)(r:ce_):SR K own G0 F0 G H ey_ bO_:=
 ⟨s.or.set hi r,s.ext,λj hj p e=>by
  have ne:i≠j:=λz=>hi (z▸hj);rw[BR ne]at e;exact s.fr j hj p e⟩
nonrec def Fp:Ag->Option Fl:=λρ=>some an_
nonrec def sSeq(q1 q2:aI_):Ag->Option Fl:=λρ=>(q1 ρ).bind λr=>match r with|.nx ρ'=>q2 ρ'|.rt d=>some aY!
def Hr:DSs X own own [] Fp:=⟨λG0 F0 J s Z H E I ⟨G,ρ,r,er,e,k⟩=>by
 cases e;exact a7f J s Z H E I (k G Z H er)⟩
def Br(B:wO_)(Y:DSs X bi jj rest q2):DSs X own jj l8! (sSeq q1 q2):=⟨λG0 F0 J s Z H E I ⟨G,ρ,r,er,e,k⟩=>by
 refine zG os! (Y.ok G0 F0) J s Z H E I ?_;obtain⟨r1,e1,e2⟩:=AB.mp e;refine⟨G,ρ,r1,er,e1,?_⟩;cases r1 with
 |nx ρ'=>exact λG' hx H' cf=>⟨G',ρ',r,cf,e2,k⟩
 |rt d=>
  cases e2;exact k⟩
def Bt(B:wO_):DSs X own bi [st] q1:=⟨λG0 F0=>a7e os!⟩
def SR.free{K:W.Frag}{G0 F0 G H:Hp}{Z:St}{ρ:Ag}(s:fj_):SR K [] G0 F0 ff! H Z ρ:=by
 have o:=s.or.full;refine⟨o,⟨jJ!,s.ext.h,o.sub,bm!⟩,am_⟩
 .have z:=s.ext.g b u e;unfold Uq;split
  .exact s.or.sub b u z
  .exact z
 .unfold Uq at h;split at h
  .rename_i O;obtain⟨i,hi,q⟩:=Xm O;exact .inr (s.fr i hi b q)
  .exact s.ext.new b h
def a1q(h:DSs X [] jj rest q1):DSs X own jj rest q1:=⟨λG0 F0 J s Z H E I ⟨G,ρ,r,er,e,k⟩=>h.ok G0 F0 J s Z H E I ⟨_,ρ,r,er.free,e,k⟩⟩
nonrec def Cv(f:d_):Ag->Option Fl:=λρ=>(ah!).map Fl.rt
def Da(h:dl!):DS X own bi l8_ (Cv f):=c5a (b4l h.ok) λG0 F0 E Z G H ρ r er e' k=>by
 obtain⟨d,e1,rfl⟩:=AO.mp e';exact⟨G,ρ,d,er.or,e1,λv G' H' x r=>k v G' H' (er.ext.trans x) r⟩
nonrec def Fc(i:Nat)(f:d_):Ag->Option Fl:=λρ=>(ah!).map λd=>.nx bO_
def Lc{i:Nat}(hN:bt!)(hi:ai_)(L:bt_)(h:dl!)(bp:bm_:=by decide)(hs:wP!:=by rfl)
  (hf:X.fn x=true\/X.env.scope.names.lookup x=some .local:=by first|exact .inl rfl|exact .inr rfl|assumption):DS X own own wP_ (Fc i f):=
 c5a wQ! λG0 F0 E Z G H ρ r er e' k=>by
  obtain⟨d,e1,rfl⟩:=AO.mp e';exact⟨G,ρ,d,er.or,e1,λv G' H' x r=>k G' _ H' ((g6!).set bp r)⟩
nonrec def Lp(ft:ag_)(q1 q2:aI_):Ag->Option Fl:=λρ=>(gX!).bind λb=>if b then q1 ρ else q2 ρ
def Nv{b1 b2:bH!}(hc:DT X own c ft)(B:DSs X own bi b1 q1)(Y:DSs X own bi b2 q2):DS X own bi wQ_ (Lp ft q1 q2):=⟨λG0 F0 J s Z H E I ⟨G,ρ,r,er,e',k⟩=>by
 refine c4l hc.ok os! (Y.ok G0 F0) J s Z H E I ?_;obtain⟨x,e1,e2⟩:=AB.mp e';refine⟨G,ρ,x,er.or,e1,λG' H' x'=>?_⟩;cases x with
 |true=>exact Wi wR!
 |false=>exact Wj wR!⟩
nonrec def Ss(i:Nat)(fs:an!):Ag->Option Fl:=λρ=>(fg!).bind λds=>if f_<=1000 then some (.nx os_)else none
def SR.ownNew{K:W.Frag}{G0 F0 G H:Hp}{Z:St}{ρ:Ag}{i:Nat}(s:fj_)(hi:bm_)(hl:i<fZ_)(r:g6_)(hp:cG!):
  SR K (i::own) G0 F0 G jH! (Z.set i cd_) os_:=by
 have yf:i<gQ_:=by rw[s.or.len];exact hl
 have yg:Cr H jH!:=Pm hp;show"#6";refine⟨⟨wR_,by rw[EF,EF,s.or.len],wS!,j1_,λj hj k hk b7 a b e1 e2=>?_⟩,⟨s.ext.g,s.ext.h.trans yg,wR_,s.ext.new⟩,λj hj a e=>?_⟩
 .have cu:i≠j:=λz=>n (by rw[z];exact AL);rw[BR cu]at q ⊢;exact s.or.at_ j d q λz=>n (AD _ z)
 .rcases AE.mp hj with z|z
  .subst z;exact⟨p,ds,vs,by rw[CS yf],by rw[CS hl],Db,s.or.sub.free hp,r⟩
  .have cu:i≠j:=λy=>hi (y▸z);obtain⟨a,r9,f9,B,Y,h3,h4,h5⟩:=s.or.own_ j z;exact⟨a,r9,f9,by rw[BR cu];exact B,by rw[BR cu];exact Y,by rw[Bn (ne h3)];exact h3,h4,h5⟩
 .have look:∀{j:Nat} {a:Addr},j∈i::own->(Z.set i cd_)[j]?=some (some fc!)->(j=i/\a=p)\/(j≠i/\j∈own/\Z[j]?=some (some fc!)/\a≠p):=λ{j a} hj e=>by
   by_cases cu:i=j
   .subst cu;rw[CS hl]at e;cases e;exact .inl bJ_
   .rw[BR cu]at e;have hm:j∈own:=(AE.mp hj).elim wT! id;obtain⟨a',r9,f9,B,Y,h3,h4,h5⟩:=s.or.own_ j hm;rw[e]at Y;cases Y;exact .inr ⟨AK cu,hm,e,ne h3⟩
  rcases look hj e1 with⟨z1,z2⟩|⟨z1,z2,z3,z4⟩
  .rcases look hk e2 with⟨y1,y2⟩|⟨y1,y2,y3,y4⟩
   .exact absurd (z1.trans y1.symm) b7
   .rw[z2];exact AK y4
  .rcases look hk e2 with⟨y1,y2⟩|⟨y1,y2,y3,y4⟩
   .rw[y2];exact z4
   .exact s.or.dis j z2 k y2 b7 a b z3 y3
 .by_cases cu:i=j
  .subst cu;rw[CS hl]at e;cases e;exact s.ext.h.free hp
  .rw[BR cu]at e;exact s.fr j ((AE.mp hj).elim wT! id) a e
def Wt{i:Nat}{p3 p4:Pos}(hN:bt!)(hi:ai_)(L:bt_)(h:jS!)(bp:bm_:=by decide)
  (hf:X.fn x=true\/X.env.scope.names.lookup x=some .local:=by first|exact .inl rfl|exact .inr rfl|assumption)(bu:swapsWith (.List es p2) (some (.Name x p3)) p4.line X.env=pure false:=by rfl):DS X own (i::own) (.Assign [.Name x p3] (.List es p2) p4) (Ss i fs):=⟨λG0 F0 J s Z H E I ⟨G,ρ,r,er,e',k⟩=>by
  refine a3x hN hi L jS_ bu hf J s Z H E I ?_;have hl:i<fZ_:=by rw[I.len];exact(BA.mp hi).1
  obtain⟨ds,e1,e2⟩:=AB.mp e';split at e2
  .rename_i hsz;cases e2;exact⟨G,ρ,ds,er.or,e1,λvs G' H' x r=>⟨by rw[<-Aq r];exact Lw hsz,λp hp=>k G' _ _ ((g6!).ownNew bp hl r hp)⟩⟩
  .cases e2⟩
def SR.upd{K:W.Frag}{G0 F0 G H:Hp}{Z:St}{ρ:Ag}{i:Nat}(s:fj_)(hi:d7!)(hp:vZ_)(r:g6_):
  SR K own G0 F0 G jH! Z os_:=by
 obtain⟨p',r9,f9,B,Y,h3,h4,h5⟩:=s.or.own_ i hi;rw[hp]at Y;cases Y;have hG:∀{b u},G b=some u->b≠p:=λe=>Ea e h4;have hF:∀{b u},F0 b=some u->b≠p:=λe=>Ea e (s.fr i hi p hp);have yf:i<gQ_:=(g7!).1;refine⟨⟨wU_,by rw[EF,s.or.len],wS!,j1_,s.or.dis⟩,⟨s.ext.g,λb u e=>by rw[Bn (hF e)];exact s.ext.h b u e,wU_,s.ext.new⟩,s.fr⟩
 .have cu:i≠j:=λz=>n (z▸hi);rw[BR cu]at q;exact s.or.at_ j d q n
 .by_cases cu:i=j
  .subst cu;exact⟨p,ds,vs,by rw[CS yf],hp,Db,h4,r⟩
  .obtain⟨a,RQ,yh,g1,g2,g3,g4,g5⟩:=s.or.own_ j hj;have ne:a≠p:=AK (s.or.dis i hi j hj cu p a hp g2);exact⟨a,RQ,yh,by rw[BR cu];exact g1,g2,by rw[Bn ne];exact g3,g4,g5⟩
nonrec def Zg(i:Nat)(f:d_):Ag->Option Fl:=λρ=>(ah!).bind λd=>match ρ[i]? with|some (some (.lst ds))=>if f_<big then some wV_ else none|_=>none
def Xu{i:Nat}{x:Str}{ag ab:Pos}(bp:d7!:=by decide)(h:dl!)(hN:ai_:=by rfl)(hv:cY_:=by first|exact Or.inl rfl|exact Or.inr a_|exact Or.inr bn!)
  (hd:F_:=by decide)(bv:cZ!:=by decide)
  (bz:j3!:=by rfl)(gk:((jn_).all cB!&&(cB_).all cC!
   &&decide wW!)=true:=by rfl) (dh:cA_:=by rfl)
  (df:attributeBase bo_ "append" X.env j3_=eval bo_ X.env:=by rfl) (gn:g7_:=by rfl) (j7:swapsWith wW_ none pos.line X.env=pure false:=by rfl):
  DS X own own (.Expr wW_ pos) (Zg i f):=⟨λG0 F0 J s Z H E I ⟨G,ρ,r,er,e',k⟩=>by
  refine iT (qX FC PySem.F.slot_list_append PySem.F.type_list_append rE jM! wX! df gk dh bz gn) j7 J s Z H E I ?_;obtain⟨d,e1,e2⟩:=AB.mp e';obtain⟨p,ds,vs,B,Y,h3,h4,h5⟩:=er.or.own_ i bp;rw[B]at e2;simp only at e2;split at e2
  .rename_i hl;cases e2;refine⟨fk_,Y,ot!,G,ρ,d,er.or,e1,λv G' H' x r=>⟨p,vs,v,rfl,rfl,x.h _ _ h3,?_,?_⟩⟩
   .rw[<-Aq h5];exact BE hl j4!
   .exact k G' Z _ ((g6!).upd bp Y (Fm ot_ (Bc.cons r Bc.nil)))
  .cases e2⟩
nonrec def a3o(i:Nat)(fx fv:d_):Ag->Option Fl:=λρ=>(fv ρ).bind λd=>(fx ρ).bind λx=>match x,ρ[i]? with|.int j,some (some (.lst ds))=>(ou!).map λk=>.nx wX_|_,_=>none
def b7n{i:Nat}{x:Str}{fx fv:d_}(bp:d7!:=by decide)(L:wY!)(hv:DE X own e fv)(hN:ai_:=by rfl)(yi:cY_:=by first|exact Or.inl rfl|exact Or.inr a_|exact Or.inr bn!)
  (hd:F_:=by decide)(bv:cZ!:=by decide)
  (ha:∀v,assign wY_ X.env v=(do
   let ov <-holding [v] j3_
   let iv <-holding [v,ov] (eval ix X.env)
   standAt p2
   holding eF_ mb!
   release eF_ []):=by intro _;rfl)
  (hs:swapsWithSole j4_ e pos.line X.env=pure false:=by rfl) (hw:swappedStores j4_ e X.env=pure none:=by rfl)
  (B:(assignEach j4_ X.env).map A_=[assign wY_ X.env]:=by rfl):
  DS X own own (.Assign j4_ e pos) (a3o i fx fv):=⟨λG0 F0 J s Z H E I ⟨G,ρ,r,er,e',k⟩=>by
  refine b4n hv.ok (b4r wZ! L.ok yC ha) hs hw B J s Z H E I ?_;obtain⟨d,e1,e2⟩:=AB.mp e';obtain⟨z,e3,e4⟩:=AB.mp e2;obtain⟨p,ds,vs,B,Y,h3,h4,h5⟩:=er.or.own_ i bp;rw[B]at e4;cases z<;>first|cases e4|skip
  rename_i j;obtain⟨n,e5,rfl⟩:=AO.mp (show(ou!).map _=some r from e4);refine⟨G,ρ,d,er.or,e1,λv G' H' x r=>⟨fk_,Y,G',ρ,eH!,er.or.grow x,e3,wZ_⟩⟩;cases Bp r2;refine⟨p,vs,j,n,rfl,rfl,w0_,by rw[<-Aq h5];exact e5,?_⟩;exact k G2 Z _ (((g6!).grow x2).upd bp Y (kZ (r.mono x2.g) n ((ot_).mono x2.g)))⟩
nonrec def Wp(i:Nat)(fx:d_):Ag->Option D:=λρ=>(fx ρ).bind λx=>match x,ρ[i]? with|.int j,some (some (.lst ds))=>Gf ds j|_,_=>none
def fB{i:Nat}{x:Str}{fx:d_}(bp:d7!:=by decide)(L:wY!)(hs:jK ix)(hN:ai_:=by rfl)(yi:cY_:=by first|exact Or.inl rfl|exact Or.inr a_|exact Or.inr bn!)
  (hd:F_:=by decide)(bv:cZ!:=by decide):DE X own (.Subscript bo_ ix pos) (Wp i fx):=
 Ja (b4z a8l wZ! L.ok hs) λZ G H Q ρ d er e k=>by
  obtain⟨z,e3,e4⟩:=AB.mp e;obtain⟨p,ds,vs,B,Y,h3,h4,h5⟩:=er.own_ i bp;rw[B]at e4;cases z<;>first|cases e4|skip
  rename_i j;have e5:Gf ds j=some d:=e4;obtain⟨v,e6,r6⟩:=aY h5 e5;refine⟨fk_,Y,G,ρ,eH!,er,e3,wZ_⟩;cases Bp r2;exact⟨p,vs,j,v,rfl,rfl,Jf.of (x2.h _ _ h3),e6,k v G2 H2 x2 (r6.mono x2.g)⟩
nonrec def mJ(bnd:ae_)(q:aI_):List D->Ag->Option Fl
 |[],ρ=>some an_
 |d::ds,ρ=>(j0!).bind λai=>(q ai).bind λr=>match r with|.nx bh=>mJ bnd q ds bh|.rt d=>some aY!
nonrec def oQ(fi:an!)(bnd:ae_)(q:aI_):Ag->Option Fl:=λρ=>(fi ρ).bind λds=>mJ bnd q ds ρ
nonrec def nW(F0 G1:Hp):Hp:=λb=>match F0 b with|some o=>some o|none=>G1 b
def SR.base{K:W.Frag}{G0 F0 G1 H1:Hp}{Z:St}{ρ:Ag}(s:SR K own G0 F0 G1 H1 Z ρ):SR K own G1 g9! G1 H1 Z ρ:=by
 refine⟨s.or,⟨Cr.refl _,jJ!,s.or.sub,dp!⟩,w1!⟩
 .unfold nW at e;show"!5"
  .rename_i o ho;cases e;exact s.ext.h b _ ho
  .exact s.or.sub b u e
 .obtain⟨p',ds,vs,B,Y,h3,h4,h5⟩:=s.or.own_ i hi;rw[e]at Y;cases Y;unfold nW;rw[s.fr i hi p e];exact h4
def nL{G0 F0 G1 H1 G' H':Hp}(x:w1_)(y:Ed G1 g9! G' H'):Ed G0 F0 G' H':=by
 refine⟨x.g.trans y.g,λb u e=>y.h b u ?_,y.sub,bm!⟩
 .unfold nW;rw[e]
 .rcases y.new b h with z|z
  .exact x.new b z
  .right;unfold nW at z;split at z
   .cases z
   .assumption
def SR.unbase{K:W.Frag}{G0 F0 G1 H1 G' H':Hp}{Z:St}{ρ:Ag}(x:w1_)(s:SR K own G1 g9! G' H' Z ρ):SR K own G0 F0 G' H' Z ρ:=
 ⟨s.or,nL x s.ext,λi hi p e=>by
  have z:=s.fr i hi p e;unfold nW at z;split at z
  .cases z
  .assumption⟩
nonrec def Dk(i:Nat):D->Ag->Option Ag:=λd ρ=>some bO_
def a5l{i:Nat}(hp:gc!)(hc:bf_)(az:DI X own dm_ iter fi)(hN:bt!)(hi:ai_)(L:bt_)(O:DSs X own own body q1)(bp:bm_:=by decide)
  (hf:X.fn x=true\/X.env.scope.names.lookup x=some .local:=by first|exact .inl rfl|exact .inr rfl|assumption)(hs:c6_:=by intro _;rfl):
  DS X own own (.For dm_ iter body [] pos) (oQ fi (Dk i) q1):=⟨λG0 F0 J s Z H E I ⟨G,ρ,r,er,e',k⟩=>by
 obtain⟨ds,e1,e2⟩:=AB.mp e';have cg:PSs X body (λE Z H=>∃A hb,tsD X.K A hb own own q1 E Z H):=λJ s Z H E I ⟨A,hb,h⟩=>O.ok A hb J s Z H E I h;refine b4m hp hc az.ok (Cc hN hi L hf) cg hs J s Z H E I ⟨G,ρ,ds,er.or,e1,wM_⟩;have MU:Ed G0 F0 G1 H1:=er.ext.trans x1;refine⟨λn m hx H'=>n<=f_/\m=f_ - n/\∃G' ρ',SR X.K own G1 g9! G' H' hx ρ'/\mJ (Dk i) q1 nP! ρ'=some r,
  ⟨f_,CI _,rfl,G1,ρ,(oq_).base,e2⟩,?_⟩
 rintro n m hx H' ⟨hn,rfl,G',ρ',cf,e3⟩;obtain⟨m7,m8⟩:=fh n G' H' cf.ext.g cf.or.sub;by_cases am:n<f_
 .right;have hd:ds[n]?=some ds[n]:=by simp[am]
  have ye:ds.drop n=ds[n]::ds.drop bD!:=EV am;rw[ye]at e3;unfold mJ at e3;obtain⟨ai,e4,e3⟩:=AB.mp e3;obtain⟨r1,e5,e3⟩:=AB.mp e3;cases e4;obtain⟨go,yl⟩:=m7 _ hd;refine⟨go,λc8 H2=>∃G2 bh,SR X.K own G1 g9! G2 H2 c8 bh/\mJ (Dk i) q1 (ds.drop bD!) bh=some r,λc8 H2 ⟨G2,bh,B,Y⟩=>⟨f_ - bD!,r!,am,rfl,G2,bh,B,Y⟩,j0_⟩;obtain⟨G2,x2,r2⟩:=yl v H2 hy;refine⟨G1,nW F0 G1,G2,_,r1,(cf.grow x2).set bp r2,e5,?_⟩;cases r1 with
  |nx bh=>exact λG3 gi H3 j6=>⟨G3,bh,j6,e3⟩
  |rt d=>
   cases e3;exact λw G3 H3 x3 r3=>k w G3 H3 (nL MU x3) r3
 .left;have ij:n=f_:=by omega
  refine ow!;rw[ij,HY]at e3;cases e3;exact k G' hx H' (SR.unbase MU cf)⟩
def xT{K:W.Frag}{G H:Hp}{N:k!}{ds:b_}(s:L_)(r:g6_):OR K [] G H (L2.Yi N vs) ha_:=by
 have hl:=Aq r;unfold L2.Yi;refine⟨s,by simp[hl],nU_,am_,am_⟩;by_cases hi:i<f_
 .rw[DC gz!,BS]at q;obtain⟨d',B,Y⟩:=AO.mp q;cases Y;obtain⟨v,h3,h4⟩:=Kj r B;exact⟨v,by rw[DC (by simpa[<-hl]using hi),BS,h3];rfl,h4⟩
 .rw[eW_,GF]at q;split at q<;>cases q
end
def c8w{K:W.Frag}{mg:C!}{st:Stmt}{N ps:k!}{k:Nat}{h2:j_}{q:aI_}{g:W_}
  (F:w2_)(S:dZ!)
  (O:∀(ae:Value) (A:Around) (outer:as!) (s:Shared) (H:Hp) (E:XK),Ax k ox!->DSs (ox_).nox [] h2 bN! q)
  (hg:∀ds d,f_=S_->g ds=some d->q ha_=some aY!\/∃ρ,q ha_=some an_/\d=.non):
  Km P w K mg base iL Q! σ fd ps j6_:=by
 refine w3!;obtain⟨hl,G,ds,d,sub,r,e,kk⟩:=h;refine⟨_,(w3_).ok G H,?_⟩;have er:=xT (N:=N) sub r;rcases hg ds d (by rw[Aq r];exact hl) e with z|⟨ρ,z,rfl⟩
 .exact⟨G,_,_,w4!,z,λv G' H' x r=>kk v G' H' x r⟩
 .exact⟨G,_,_,w4!,z,λG' hx H' cf=>kk _ G' H' cf.ext Bl.non⟩
mutual
noncomputable def Ir:D->D->Bool
 |.non,.non=>true
 |.bl a,.bl b=>a==b
 |.bl a,.int b=>uG!==b
 |.int a,.bl b=>a==uG_
 |.int a,.int b=>a==b
 |.str a,.str b=>a==b
 |.tup xs,.tup ys=>Qi xs ys
 |.lst xs,.lst ys=>Qi xs ys
 |_,_=>false
noncomputable def Qi:List D->List D->Bool
 |[],[]=>true
 |x::xs,y::ys=>Ir x y&&Qi xs ys
 |_,_=>false
end
mutual
noncomputable def Co:D->Bool
 |.fn _=>false
 |.dk _=>false
 |.tup xs=>Eg xs
 |.lst xs=>Eg xs
 |_=>true
noncomputable def Eg:List D->Bool
 |[]=>true
 |d::ds=>Co d&&Eg ds
end
section
variable{X:Cx}{J:List (Addr×Obj)}{Z:St}{H:Hp}{s:Shared}
def jR(I:d!)(h:j8_)(h':Jf X.K H a ws):False:=by obtain⟨_,_,⟨o,e,c,_⟩,_⟩:=I.tuple h;obtain⟨_,_,⟨o',n,e',c',_⟩,_⟩:=I.list h';rw[e]at e';cases e';rw[c]at c';exact absurd c' c_
mutual
theorem tU(I:d!):∀(d d':D) (v:V),Co d=true->Co d'=true->Bl X.K H d v->Bl X.K H d' v->d=d'
 |.non,d',v,n,n',r,r'=>by
  cases Ip r;cases d'<;>first
   |rfl
   |(unfold Bl at r';cases r';done)
   |(obtain⟨a,vs,e,_⟩:=Cz r';cases e)
   |(obtain⟨a,vs,e,_⟩:=Cp r';cases e)
   |(unfold Co at n';cases n')
 |.bl b,d',v,n,n',r,r'=>by
  cases Fo r;cases d'<;>first
   |(cases Fo r';rfl;done)
   |(unfold Bl at r';cases r';done)
   |(obtain⟨a,vs,e,_⟩:=Cz r';cases e)
   |(obtain⟨a,vs,e,_⟩:=Cp r';cases e)
   |(unfold Co at n';cases n')
 |.int b,d',v,n,n',r,r'=>by
  cases Bp r;cases d'<;>first
   |(cases Bp r';rfl;done)
   |(unfold Bl at r';cases r';done)
   |(obtain⟨a,vs,e,_⟩:=Cz r';cases e)
   |(obtain⟨a,vs,e,_⟩:=Cp r';cases e)
   |(unfold Co at n';cases n')
 |.str b,d',v,n,n',r,r'=>by
  cases Dj r;cases d'<;>first
   |(cases Dj r';rfl;done)
   |(unfold Bl at r';cases r';done)
   |(obtain⟨a,vs,e,_⟩:=Cz r';cases e)
   |(obtain⟨a,vs,e,_⟩:=Cp r';cases e)
   |(unfold Co at n';cases n')
 |.tup xs,d',v,n,n',r,r'=>by
  obtain⟨a,vs,rfl,q,rr⟩:=Cz r;cases d' with
  |tup ys=>
   obtain⟨a',f9,e,q',bx⟩:=Cz r';cases e;have:=I.tuple_inj q q';subst this;unfold Co at n n';rw[w5_]
  |lst ys=>
   obtain⟨a',f9,e,q',bx⟩:=Cp r';cases e;exact(jR I q q').elim
  |fn b=>unfold Co at n';cases n'
  |dk b=>unfold Co at n';cases n'
  |non=>cases Ip r'
  |bl b=>cases Fo r'
  |int b=>cases Bp r'
  |str b=>cases Dj r'
 |.lst xs,d',v,n,n',r,r'=>by
  obtain⟨a,vs,rfl,q,rr⟩:=Cp r;cases d' with
  |lst ys=>
   obtain⟨a',f9,e,q',bx⟩:=Cp r';cases e;have:=I.list_inj q q';subst this;unfold Co at n n';rw[w5_]
  |tup ys=>
   obtain⟨a',f9,e,q',bx⟩:=Cz r';cases e;exact(jR I q' q).elim
  |fn b=>unfold Co at n';cases n'
  |dk b=>unfold Co at n';cases n'
  |non=>cases Ip r'
  |bl b=>cases Fo r'
  |int b=>cases Bp r'
  |str b=>cases Dj r'
 |.fn a,d',v,n,n',r,r'=>by unfold Co at n;cases n
 |.dk a,d',v,n,n',r,r'=>by unfold Co at n;cases n
theorem lA(I:d!):∀(ds es:b_) (vs:k_),Eg ds=true->Eg es=true->Bc X.K H ds vs->Bc X.K H es vs->ds=es
 |[],es,vs,n,n',r,r'=>by
  cases Fq r;cases es with
  |nil=>rfl
  |cons e es=>obtain⟨v,t,z,_⟩:=Dc r';cases z
 |d::ds,es,vs,n,n',r,r'=>by
  obtain⟨v,t,rfl,r1,r2⟩:=Dc r;cases es with
  |nil=>cases Fq r'
  |cons e es=>
   obtain⟨v',t',z,se,sf⟩:=Dc r';cases z;unfold Eg at n n';rw[BH]at n n';rw[tU I d e v n.1 n'.1 r1 se,lA I ds es t n.2 n'.2 r2 sf]
end
mutual
theorem cK:∀d:D,Co d=true->Ir d d=true
 |.non,_=>by simp[Ir]
 |.bl b,_=>by simp[Ir]
 |.int i,_=>by simp[Ir]
 |.str s,_=>by simp[Ir]
 |.tup xs,h=>by unfold Ir;exact eX xs w6!
 |.lst xs,h=>by unfold Ir;exact eX xs w6!
 |.fn a,h=>by simp[Co]at h
 |.dk k,h=>by simp[Co]at h
theorem eX:∀ds:List D,Eg ds=true->Qi ds ds=true
 |[],_=>by simp[Qi]
 |d::ds,h=>by
  unfold Eg at h;rw[BH]at h;unfold Qi;rw[cK d h.1,eX ds h.2];rfl
end
def yQ(I:d!)(d d':D)(v:V)(n:ci!)(n':fl_)(r:ef_)(r':Bl X.K H d' v):Ir d d'=true:=by rw[<-tU I d d' v n n' r r'];exact cK d n
def Xo(A:Around):A.in1.units=A.units+1:=rfl
def Wv:∀(xs ys:b_),i_=M_->((List.range i_).all λj=>Ir (xs.getD j .non) (ys.getD j .non))=Qi xs ys
 |[],[],_=>rfl
 |x::xs,y::ys,h=>by
  have ih:=Wv xs ys j9!;unfold Qi;rw[AJ,List.range_succ_eq_map,FT,<-ih,List.all_map];rfl
 |[],_::_,h=>by simp at h
 |_::_,[],h=>by simp at h
def Wr:∀(xs ys:b_),i_≠M_->Qi xs ys=false
 |[],[],h=>absurd rfl h
 |x::xs,y::ys,h=>by
  unfold Qi;rw[Wr xs ys j9!,IV]
 |[],_::_,_=>rfl
 |_::_,[],_=>rfl
def bY{ds es:b_}{us us':h_}(rd:hb!)(re:hb_)(rv:eB!)(ao:Ce ws us')
  (h:∀(j:Nat) u u',us[j]?=some u->us'[j]?=some u'->SeqAt.EqAt A s u u' j9_):
  ∀j (B:j<ka_) (Y:j<oz_),SeqAt.EqAt A s cE_[j] oA![j] j9_:=λj B Y=>by
 have l1:j<ar!:=by simpa using B
 have l2:j<us'.length:=by simpa using Y
 exact h j _ _ (by simp[l1]) (by simp[l2])
def qR{ds es:b_}{A:Around}(I:d!)(qa:j8_)(qb:Lj X.K H b ws)(rd:hb!)(re:hb_)(hu:ao!)
  (h:kb!):SeqAt.RcAt A s ab_ dV_ (Qi ds es):=by
 obtain⟨us,rv,p1,_⟩:=I.tuple qa;obtain⟨us',ao,p2,_⟩:=I.tuple qb;have B:=Aq rd;have Y:=Aq re;have h3:=dM_;have h4:=kb_;have z:=SeqAt.RcAt.tuples (A:=A) (e:=kc!) p1 p2 hu kc_;have e:w7_=Qi ds es:=by
  show"#8"
  .rw[hl,Nat.min_self,<-hl,kd!,hl];simp
  .rw[kd_];have:(f_==af!)=false:=by simpa using hl
   rw[this,IV]
 rw[e]at z;exact z
def yV{ds es:b_}{A:Around}(I:d!)(qa:oB_)(qb:Jf X.K H b ws)(rd:hb!)(re:hb_)(hu:ao!)
  (h:kb!):SeqAt.RcAt A s ab_ dV_ (Qi ds es):=by
 show"!@";have h4:=kb_;by_cases hl:f_=af!
 .have z:=SeqAt.RcAt.lists (A:=A) (e:=kc!) p1.isList p2.isList n7! hu kc_;rw[AN,<-h3,<-B,kd!]at z;exact z
 .rw[kd_];exact SeqAt.RcAt.lists_lengths p1.isList p2.isList w8! hu
def b6v(I:d!)(q:j8_):∃items,s.heap.IsTuple a items:=let⟨its,_,p,_⟩:=I.tuple q;⟨_,p⟩
def b1h(I:d!)(q:oB_):∃items,s.heap.IsList a items:=let⟨its,_,p,_⟩:=I.list q;⟨_,p.isList⟩
inductive RV(X:Cx)(H:Hp)(s:Shared):D->Value->Prop
 |non:RV X H s .non .none
 |bl (b:Bool):RV X H s bH_ lT!
 |int (i:Int) (t:Tok):RV X H s bd_ dC!
 |str (x:Str) (t:Tok):RV X H s dI! lv_
 |tup {xs:b_} {a:Addr} {its:ab!}:s.heap.IsTuple a its->RV X H s bc_ ab_
 |lst {xs:b_} {a:Addr} {its:ab!}:s.heap.IsList a its->RV X H s I! ab_
def qO(I:d!)(n:ci!)(r:ef_)(ru:bu!):RV X H s d u:=by
 cases d with
 |non=>cases Ip r;cases ru;exact .non
 |bl b=>cases Fo r;cases ru;exact .bl b
 |int b=>cases Bp r;obtain⟨t,rfl⟩:=ru;exact .int b t
 |str b=>cases Dj r;obtain⟨t,rfl⟩:=ru;exact .str b t
 |tup ys=>obtain⟨a,ws,rfl,q,_⟩:=Cz r;cases ru;obtain⟨its,p⟩:=b6v I q;exact .tup p
 |lst ys=>obtain⟨a,ws,rfl,q,_⟩:=Cp r;cases ru;obtain⟨its,p⟩:=b1h I q;exact .lst p
 |fn a=>unfold Co at n;cases n
 |dk a=>unfold Co at n;cases n
def Ws(I:d!){A:Around}(n:ci!)(n':fl_)(hu:ao!)(r:ef_)(r':hc!)(ru:bu!)(ap:hc_)(hT:∀xs ys,d=.tup xs->d'=.tup ys->SeqAt.EqAt A s u u' dq_)(hL:∀xs ys,d=.lst xs->d'=.lst ys->SeqAt.EqAt A s u u' dq_):SeqAt.EqAt A s u u' dq_:=by
 show"!p"
 all_goals first|exact hT _ _ rfl rfl|exact hL _ _ rfl rfl|(unfold Ir;with_reducible first|exact .none_none|exact .same _|exact .none_bool _|exact .none_int _ _|exact .none_str _ _|exact .none_tuple ‹_› hu|exact .none_list ‹_› hu|exact .bool_none _|exact .bool_bool _ _|exact .bool_int _ _ _|exact .bool_str _ _ _|exact .bool_tuple _ ‹_› hu|exact .bool_list _ ‹_› hu|exact .int_none _ _|exact .int_bool _ _ _|exact .int_int _ _ _ _|exact .int_str _ _ _ _|exact .int_tuple _ _ ‹_› hu|exact .int_list _ _ ‹_› hu|exact .str_none _ _|exact .str_bool _ _ _|exact .str_int _ _ _ _|exact .str_str _ _ _ _|exact .str_tuple _ _ ‹_› hu|exact .str_list _ _ ‹_› hu|exact .tuple_none ‹_› hu|exact .tuple_bool _ ‹_› hu|exact .tuple_int _ _ ‹_› hu|exact .tuple_str _ _ ‹_› hu|exact .tuple_list ‹_› ‹_› hu|exact .list_none ‹_› hu|exact .list_bool _ ‹_› hu|exact .list_int _ _ ‹_› hu|exact .list_str _ _ ‹_› hu|exact .list_tuple ‹_› ‹_› hu)
def c5y(I:d!){A:Around}(n:ci!)(n':fl_)(hu:ao!)(r:ef_)(r':hc!)(ru:bu!)(ap:hc_)(hT:∀xs ys,d=.tup xs->d'=.tup ys->SeqAt.RcAt A s u u' dq_)(hL:∀xs ys,d=.lst xs->d'=.lst ys->SeqAt.RcAt A s u u' dq_):SeqAt.RcAt A s u u' dq_:=by
 show"!p"
 all_goals first|exact hT _ _ rfl rfl|exact hL _ _ rfl rfl|(unfold Ir;with_reducible first|exact .none_none|exact .same _|exact .none_bool _|exact .none_int _ _|exact .none_str _ _|exact .none_tuple ‹_› hu|exact .none_list ‹_› hu|exact .bool_none _|exact .bool_bool _ _|exact .bool_int _ _ _|exact .bool_str _ _ _|exact .bool_tuple _ ‹_› hu|exact .bool_list _ ‹_› hu|exact .int_none _ _|exact .int_bool _ _ _|exact .int_int _ _ _ _|exact .int_str _ _ _ _|exact .int_tuple _ _ ‹_› hu|exact .int_list _ _ ‹_› hu|exact .str_none _ _|exact .str_bool _ _ _|exact .str_int _ _ _ _|exact .str_str _ _ _ _|exact .str_tuple _ _ ‹_› hu|exact .str_list _ _ ‹_› hu|exact .tuple_none ‹_› hu|exact .tuple_bool _ ‹_› hu|exact .tuple_int _ _ ‹_› hu|exact .tuple_str _ _ ‹_› hu|exact .tuple_list ‹_› ‹_› hu|exact .list_none ‹_› hu|exact .list_bool _ ‹_› hu|exact .list_int _ _ ‹_› hu|exact .list_str _ _ ‹_› hu|exact .list_tuple ‹_› ‹_› hu)
mutual
theorem b7k(I:d!):∀(d d':D) (A:Around) (v v':V) (u u':Value),Co d=true->Co d'=true->A.units+Oa d<cLine->Bl X.K H d v->Bl X.K H d' v'->Dm v u->Dm v' u'->SeqAt.EqAt A s u u' dq_
 |.non,d',A,v,v',u,u',n,n',hu,r,r',ru,ap=>Ws I n n' a! r r' ru ap ba_ ba_
 |.bl _,d',A,v,v',u,u',n,n',hu,r,r',ru,ap=>Ws I n n' a! r r' ru ap ba_ ba_
 |.int _,d',A,v,v',u,u',n,n',hu,r,r',ru,ap=>Ws I n n' a! r r' ru ap ba_ ba_
 |.str _,d',A,v,v',u,u',n,n',hu,r,r',ru,ap=>Ws I n n' a! r r' ru ap ba_ ba_
 |.fn _,d',A,v,v',u,u',n,n',hu,r,r',ru,ap=>Ws I n n' a! r r' ru ap ba_ ba_
 |.dk _,d',A,v,v',u,u',n,n',hu,r,r',ru,ap=>Ws I n n' a! r r' ru ap ba_ ba_
 |.tup xs,d',A,v,v',u,u',n,n',hu,r,r',ru,ap=>Ws I n n' a! r r' ru ap (λ_ ys e e'=>by
  cases e;subst e';obtain⟨a,vs,rfl,q,rr⟩:=Cz r;obtain⟨b,ws,rfl,q',bx⟩:=Cz r';cases ru;cases ap;by_cases lh:a=b
  .subst lh;rw[w9_];exact .same _
  .unfold Co at n n';unfold Oa at hu;unfold Ir;exact .of_refs lh (qR I q q' rr bx a! λus us' rv ao=>To I xs ys A.in1 vs ws us us' n n' fm! rr bx rv ao)) ba_
 |.lst xs,d',A,v,v',u,u',n,n',hu,r,r',ru,ap=>Ws I n n' a! r r' ru ap ba_ (λ_ ys e e'=>by
  cases e;subst e';obtain⟨a,vs,rfl,q,rr⟩:=Cp r;obtain⟨b,ws,rfl,q',bx⟩:=Cp r';cases ru;cases ap;by_cases lh:a=b
  .subst lh;rw[w9_];exact .same _
  .unfold Co at n n';unfold Oa at hu;unfold Ir;exact .of_refs lh (yV I q q' rr bx a! λus us' rv ao=>To I xs ys A.in1 vs ws us us' n n' fm! rr bx rv ao))
theorem To(I:d!):∀(ds es:b_) (A:Around) (vs ws:k_) (us us':h_),Eg ds=true->Eg es=true->A.units+Hx ds<cLine->Bc X.K H ds vs->Bc X.K H es ws->Ce vs us->Ce ws us'->
  ∀(j:Nat) u u',us[j]?=some u->us'[j]?=some u'->SeqAt.EqAt A s u u' j9_
 |[],es,A,vs,ws,us,us',n,n',hu,r,r',rv,ao,j,u,u',e,e'=>by
  cases Fq r;cases rv;simp at e
 |d::ds,es,A,vs,ws,us,us',n,n',hu,r,r',rv,ao,j,u,u',e,e'=>by
  obtain⟨v,t,rfl,r1,r2⟩:=Dc r;cases es with
  |nil=>
   cases Fq r';cases ao;simp at e'
  |cons c es=>
   obtain⟨w,t',rfl,se,sf⟩:=Dc r';unfold Eg at n n';rw[BH]at n n';unfold Hx at hu;cases rv with
   |cons px sh=>
    cases ao with
    |cons RS RT=>
     cases j with
     |zero=>
      simp at e e';subst e e';exact b7k I d c A v w _ _ n.1 n'.1 a! r1 se px RS
     |succ j=>
      exact To I ds es A t t' _ _ n.2 n'.2 a! r2 sf sh RT j u u' cT_ (by simpa using e')
end
def c5z(I:d!)(d d':D){A:Around}(n:ci!)(n':fl_)(hu:xa!)(r:ef_)(r':hc!)(ru:bu!)(ap:hc_):SeqAt.RcAt A s u u' dq_:=
 c5y I n n' a! r r' ru ap (λxs ys e e'=>by
  subst e e';obtain⟨a,vs,rfl,q,rr⟩:=Cz r;obtain⟨b,ws,rfl,q',bx⟩:=Cz r';cases ru;cases ap;unfold Co at n n';unfold Oa at hu;unfold Ir;exact qR I q q' rr bx a! λus us' rv ao=>To I xs ys A.in1 vs ws us us' n n' fm! rr bx rv ao) (λxs ys e e'=>by
  subst e e';obtain⟨a,vs,rfl,q,rr⟩:=Cp r;obtain⟨b,ws,rfl,q',bx⟩:=Cp r';cases ru;cases ap;unfold Co at n n';unfold Oa at hu;unfold Ir;exact yV I q q' rr bx a! λus us' rv ao=>To I xs ys A.in1 vs ws us us' n n' fm! rr bx rv ao)
nonrec def c6e(K:W.Frag):R2:=λx y H Q=>∃dx dy,Bl K H dx x/\Bl K H dy y/\Co dx=true/\Co dy=true/\Oa dx<=40/\Q (.bl (Ir dx dy)) H
def Dt(hu:aJ!):Md X (compareOp .Eq) (c6e X.K):=by intro J s Z H x y v u Q I rx ry h;obtain⟨dx,dy,r1,r2,n1,n2,hd,q⟩:=h;exact c5z I dx dy n1 n2 a! r1 r2 rx ry X.prog X.w X.xe _ ke_
nonrec def Cg:D->D->Option D:=λx y=>if Co x&&Co y&&decide (Oa x<=40)then some (.bl (Ir x y))else none
def Du{K:W.Frag}:Pb K (c6e K) Cg:=by
 show"!0";unfold Cg at e;show"!5"
 .show"!O";exact xa_
 .cases e
end
section
variable{X:Cx}{own:List Nat}{e a b c o i tg:Expr}{es:List Expr}{pos p2:Pos}{f fa fb fc fe:Ag->Option D}{fs fi:Ag->Option (List D)}{ft fu:Ag->Option Bool}
nonrec def Ei(g g':aX!)(fa fb fc:d_):Ag->Option D:=λρ=>(d8_).bind λx=>(gV_).bind λy=>(g x y).bind λz=>match z with
 |.bl true=>(fc ρ).bind λu=>g' y u
 |.bl false=>some au_
 |_=>none
def a1u{op ez:CmpOp}{r r':R2}{g g':aX!}(ho:b3_)(hg:d9!)(eh:iI_)(sj:Pb X.K r' g')(ha:R!)(O:cf_)(hc:DE X own c fc)
  (hm:iJ!:=by with_unfolding_all rfl):DE X own iJ_ xb!:=
 Ja (b5a ho eh ha.ok O.ok hc.ok hm) λZ G H Q ρ d er e k=>by
  obtain⟨x,e1,e⟩:=AB.mp e;obtain⟨y,e2,e⟩:=AB.mp e;obtain⟨z,e3,e⟩:=AB.mp e;refine xb_;have nh:=s1.trans gW_;cases z<;>first|cases e|skip
  rename_i bb;cases Fo r3;refine xc_;cases bb with
  |true=>
   obtain⟨u,e4,e⟩:=AB.mp e;exact Wi ⟨G3,ρ,u,er.grow nh,e4,λq G4 H4 s4 r4=>sj s4.sub xd! r4 e λv G5 H5 s5 r5=>k v G5 H5 xd_ r5⟩
  |false=>
   cases e;exact Wj (k _ G3 H3 nh Bl.bl)
nonrec def d3e(f:d_):Ag->Option D:=λρ=>(ah!).bind λd=>match d with|.int i=>some (.int (-i))|_=>none
def c9a(h:R!):DE X own (.UnaryOp .USub a pos) (d3e fa):=
 Ja (d1x c5j h.ok) λZ G H Q ρ d er e k=>by
  obtain⟨x,e1,e⟩:=AB.mp e;cases x<;>first|cases e|skip
  refine fj!;cases Bp r1;exact⟨_,rfl,k _ G1 H1 s1 Bl.int⟩
nonrec def c4f:R2:=λx y H Q=>∃z n,x=.str z/\y=.int n/\PySem.MulOk z n/\Q (.str (Txt.mul z n)) H
def a7s:Md X mt! c4f:=by intro J s Z H x y v u Q I rx ry h;obtain⟨z,n,rfl,rfl,hm,q⟩:=h;obtain⟨t,rfl⟩:=rx;obtain⟨t',rfl⟩:=ry;exact SB.mul hm λt' tk=>mG!
nonrec def Uh:D->Bool
 |.non=>true
 |.bl _=>true
 |.int _=>true
 |.str _=>true
 |_=>false
def a1i{K:W.Frag}{H:Hp}(h:Uh d=true)(r:gQ!):Yx v=true:=by
 cases d<;>first
  |(cases h;done)
  |(cases Ip r;rfl)
  |(cases Fo r;rfl)
  |(cases Bp r;rfl)
  |(cases Dj r;rfl)
def c2n{K:W.Frag}{H:Hp}(h:Uh d=true)(h':Uh d'=true)(r:gQ!)(r':Bl K H d' v'):eqV v v'=Ir d d':=by
 cases d<;>first
  |(cases h;done)
  |skip
 all_goals (cases d'<;>first
  |(cases h';done)
  |skip)
 all_goals first
  |(cases Ip r)
  |(cases Fo r)
  |(cases Bp r)
  |(cases Dj r)
 all_goals first
  |(cases Ip r')
  |(cases Fo r')
  |(cases Bp r')
  |(cases Dj r')
 all_goals simp[eqV,Ir]
def a1k{K:W.Frag}{H:Hp}:∀{ds:b_} {vs:k_},ds.all Uh=true->Bc K H ds vs->vs.all Yx=true
 |[],vs,_,r=>by cases Fq r;rfl
 |d::ds,vs,h,r=>by
  obtain⟨v,t,rfl,r1,r2⟩:=Dc r;rw[FT,BH]at h;rw[FT,BH];exact⟨a1i h.1 r1,a1k h.2 r2⟩
def a1j{K:W.Frag}{H:Hp}(L:Uh x=true)(rx:Bl K H x v):∀{ds:b_} {vs:k_},ds.all Uh=true->Bc K H ds vs->inV v vs=ds.any λd=>Ir d x
 |[],vs,_,r=>by cases Fq r;rfl
 |d::ds,vs,h,r=>by
  obtain⟨w,t,rfl,r1,r2⟩:=Dc r;rw[FT,BH]at h;have ih:=a1j L rx h.2 r2;unfold inV at ih ⊢;rw[ES,ES,ih,c2n h.1 L r1 rx]
nonrec def c8a:D->Option aG_
 |.tup xs=>some xs
 |.lst xs=>some xs
 |_=>none
nonrec def a5a(neg:Bool):D->D->Option D:=λx y=>(c8a y).bind λds=>if Uh x&&ds.all Uh then some xe_ else none
def d2g{K:W.Frag}{neg:Bool}:Pb K (rIn K neg) (a5a neg):=by
 show"!0";show"!J"
 .rename_i h;rw[BH]at h;cases e;have fin:∀{p:Addr} {vs:k_},(Jf K H p vs\/Lj K H p vs)->Bc K G ds vs->y=V.ref p->rIn K neg x y H Q:=λ{p vs} q r ey=>by
   refine⟨p,vs,ey,q,a1i h.1 rx,a1k h.2 r,?_⟩;rw[a1j h.1 rx h.2 r];show"!u"
  cases dy<;>first|(cases e1;done)|skip
  .cases e1;obtain⟨p,vs,ey,q,r⟩:=Cz ry;exact fin (.inr g4!) r ey
  .cases e1;obtain⟨p,vs,ey,q,r⟩:=Cp ry;exact fin (.inl ok!) r ey
 .cases e
structure a2r(X:Cx)(x:Str)(bn:aP_):Prop where
 ex:∃(ad:Addr) (kvs:nM_) (vs:List xf_),X.mg x=some kg!/\oE!=false/\(∀h:Heap,X.K.In h->h.DictOf (mixKind X.prog X.w) ad vs)/\KV kvs vs/\
  (∀y,aM kvs eg!=none↔bn.lookup y=none)/\∀y d,bn.lookup y=some d->∃v,aM kvs eg!=some v/\∀H,Bl X.K H d v
nonrec def c2k(bn:aP_)(neg:Bool)(f:d_):Ag->Option D:=λρ=>(ah!).bind λd=>match d with|.str y=>some (.bl (if neg then !(oE_).isSome else(oE_).isSome))|_=>none
nonrec def a8q(bn:aP_)(f:d_):Ag->Option D:=λρ=>(ah!).bind λd=>match d with|.str y=>bn.lookup y|_=>none
def c2z{x:Str}{bn:aP_}(hd:a2r X x bn)(hg:R_)(ha:R!)(bu:d3t a)(be:F_:=by decide):DE X own (.Subscript dm_ a pos) (a8q bn fa):=by
 show"#K";refine Ja (t:=λZ H Q=>tD X.K own fa Z H λv H1=>∃y u,v=.str y/\aM kvs eg!=some u/\Q u H1) xg_ λZ G H Q ρ d er e k=>?_
 .refine b9q PySem.F.slot_dict_getitem.lookup bu (Te I hg j0 (Gn xh! λv s1 ⟨y,H1,I1,r1,z,u,hz,hu,q1⟩=>?_) be);subst hz;have dd:=yj _ I1.kIn;obtain⟨w',hw,ao⟩:=cW.some_of (v:=u) (o:=valueAt vs oF!) (by rw[<-hu];exact yk.val oF!);have ty:s1.TypeIs kg! "dict":=by
   obtain⟨o,es,ep,B,Y,_⟩:=dd;exact⟨o,B,Y.1⟩
  exact⟨ty,wpAny_getItem_of (knd:=xi_) (k:=oF_) xj! dd.mapOf hw ⟨u,H1,I1.tok _,ao,q1⟩⟩
 .obtain⟨x,e1,e⟩:=AB.mp e;cases x<;>first|(cases e;done)|skip
  rename_i y;obtain⟨v,hv,hr⟩:=hs y d e;refine⟨G,ρ,_,er,e1,λw G1 H1 s1 r1=>?_⟩;cases Dj r1;exact⟨y,v,rfl,hv,k _ G1 H1 s1 (hr G1)⟩
nonrec def Ok(P:Program)(w:World)(K:W.Frag)(mg:C!)(base:Heap)(k:Nat)(x:Str)(ps:k!)(g:W_):Prop:=
 ∃σ fd,Km P w K mg base iL k σ fd ps j6_/\Js K fd ps []/\mg x=some bP_/\W.keepIn K bP_=true
def Bh{k:Nat}{ps:k!}{g:W_}{x:Str}(F:xj_)(hr:b6!)(hg:R_)(ha:gZ_)(ak:wp_)
  (hn:wp!:=by rfl)(be:F_:=by decide)(he:al_:=by rfl)(av:aT_:=by rfl):
  DE X own bi! jT!:=by
 obtain⟨σ,fd,B,Y,h3,h4⟩:=F;exact c3b B hr hg h3 h4 Y ha hn ak be he av
nonrec def c5g(P:Program)(w:World)(K:W.Frag)(mg:C!)(base:Heap)(k n:Nat)(bn:oG!):Prop:=
 ∀σ g,bn σ=some g->∃fd ps,S_=n/\Km P w K mg base iL k σ fd ps j6_/\Js K fd ps []/\W.keepIn K bP_=true
nonrec def eW(bn:oG!)(i:Nat)(fs:an!):Ag->Option D:=λρ=>(Aa i ρ).bind λd=>match d with|.fn σ=>(bn σ).bind λg=>(fg!).bind g|_=>none
def b7x{k n j:Nat}{bn:oG!}{x:Str}(F:c5g X.prog X.w X.K X.mg X.base k n bn)(hr:b6!)(ha:gZ_)(ak:wr!)
  (hj:j∉own:=by decide)(hN:vz_:=by rfl)(hv:cY_:=by first|exact Or.inl rfl|exact Or.inr a_|exact Or.inr bn!)(be:F_:=by decide)(bv:cZ!:=by decide)
  (he:al_:=by rfl)(av:aT_:=by rfl):
  DE X own bi! (eW bn j fs):=⟨by
 intro J s Z H Q I h;obtain⟨G,ρ,d,er,e1,kk⟩:=h;obtain⟨z,e2,e1⟩:=AB.mp e1;cases z<;>first|(cases e1;done)|skip
 rename_i σ;obtain⟨g,e3,e1⟩:=AB.mp e1;obtain⟨ds,e4,e1⟩:=AB.mp e1;obtain⟨fd,ps,li,F1,F2,F3⟩:=F σ g e3;obtain⟨v,B,Y⟩:=er.at_ j _ (join_some e2) hj;cases Kt Y;refine EX (Gn (Zk hN hv be bv J s Z H (λu H'=>u=.ref σ/\H'=H) I ⟨_,B,rfl,rfl⟩) λu s1 ⟨y,H1,I1,r1,hy,hH⟩=>?_);subst hy hH;cases r1;refine W.callWith_K (h₀:=X.base) I1.ok.mod.kin F3 (Gn (ha.ok pos J s1 Z H1 _ I1 ⟨G,ρ,ds,er,e4,λvs G2 H2 s2 r2=>(?_:(λvs H2=>spF X.K ps.length g vs H2 Q E0) vs H2)⟩) λus s2 ⟨vs,H2,I2,r2,q2⟩=>tz_) he av
 .exact⟨by rw[<-Aq r2,ak ρ ds e4,li],G2,ds,d,s2.sub,r2,e1,λv G3 H3 s3 r3=>kk v G3 H3 gW_ r3⟩
 .exact tS (dvs:=[]) (ds:=[]) F1 hr F2 .nil lR I2 r2 (by rw[BL];exact q2)⟩
nonrec def Its(x:Str):It:=⟨xl!,λi H v H'=>H'=H/\∃c,x.cps[i]?=some c/\v=.str am!,xl_⟩
nonrec def c8e(f:d_):Ag->Option aG_:=λρ=>(ah!).bind λd=>match d with|.str x=>some xm!|_=>none
def c2b{K:W.Frag}{G1:Hp}{x:Str}:ItD K kh_ xm! G1:=by intro i G' H' s1 s2;refine⟨cH_,λhi=>by rw[AU,CK]at hi;exact HC hi.symm⟩;rw[BS]at hd;obtain⟨c,hc,rfl⟩:=AO.mp hd;rw[ET]at hc;refine xo!;obtain⟨e1,c',a8,e2⟩:=hy;subst e1;rw[hc]at a8;cases a8;subst e2;exact⟨G',jZ!,Bl.str⟩
def xP{K:W.Frag}{x:Str}{St':dL_}(hd:xo_)
  (W:∀A':Around,oH!=none->Walks P w A' it [it] [it] x.cps.size (SignAt x) St')(RU:∀(A:Around) (i:Nat) (s:Shared) (Q:p_) (E:p_),St' i s.heap->Q b0_ s->wpAny L! A (pyIter b0_) Q E s):
  oB P w K hd_ kh_ [it] it xp! where
 mem:=by simp
 obj:=λi h st b O=>by
  have e:b=it:=by simpa using O
  subst e;exact hd i h st.2
 keep:=λi h h' st k=>⟨st.1,by
  have Wd:=W callerA rfl;exact Wd.frame i h h' st.2 λb O o e=>k b O o e⟩
 item:=by
  show"!/";show"!2";refine(W X.A bg!).item i s _ _ hg st.2 λv h' tk hv h1 kk=>?_;obtain⟨cc,u,jz,rfl⟩:=hv;show"!b";exact⟨_,rfl,AC ⟨.str ⟨#[cc]⟩,H,I1,oH_,⟨rfl,cc,jz,rfl⟩,⟨hg,h1⟩,is!⟩⟩
 done:=by
  show"!/";show"!2";show"#I";exact(W X.A bg!).done s _ _ st.2 λh' tk kk=>⟨rfl,I.turned mh! f0 f1 f3 f4 f5⟩
 self:=λA i s Q E st h=>RU A i s Q E st.2 h
def c6l{tl:TE}(hl:PE X a tl):PI X hd_ a (λZ H R=>tl Z H λv H1=>∃x,v=.str x/\R kh_ H1):=by
 intro J s Z H R I h;refine Gn r2_ λv s1 ⟨u,H1,I1,r1,x,L,q⟩=>?_;subst L;obtain⟨t,rfl⟩:=r1;have MX:∀(ty:String) (i:Nat) (h:Heap),h.IsStrIter s1.heap.objs.size ty x t i->∃o,h.get? z_=some o/\∀v,o.data≠.cell v:=λty i h st=>by
  show"!V"
 have fin:∀(ob:Obj) (St':dL_),oB X.prog X.w X.K hd_ kh_ [z_] s1.heap.objs.size xp!->St' 0 (s1.heap.push ob)->
   PIE X J Z hd_ R (.ref z_) {s1 with heap:=s1.heap.push ob}:=λob St' T st=>by
  refine⟨z_,[z_],_,_,H1,rfl,iu!,T,⟨CI _,st⟩,bg_,q⟩;have e:b=z_:=by simpa using O
  show"!R"
 cases ha:x.cps.all (·<128)with
 |false=>
  exact wpAny_pyIter_wide ha (fin _ _ (xP xp_ (λA' hA=>Walks.strWide hA _ x t) λA i s Q E st h=>wpAny_pyIter_striter_wide st h) dO!)
 |true=>
  exact wpAny_pyIter_ascii ha (fin _ _ (xP xp_ (λA' hA=>Walks.strAscii hA _ x t) λA i s Q E st h=>wpAny_pyIter_striter_ascii st h) dO!)
def c8u(h:R!):DI X own hd_ a (c8e fa):=a1r (c6l h.ok) λZ G H R ρ ds er e k=>by
 obtain⟨d,e1,e2⟩:=AB.mp e;cases d with
 |str x=>
  cases e2;refine fj!;cases Dj r1;exact⟨x,rfl,k _ G1 H1 s1 c2b⟩
 |_=>cases e2
def qA:∀{ys:k!} {us:h_},Ce xq! us->StrsAre us ys
 |[],_,.nil=>.nil
 |y::ys,_,.cons r t=>by
  obtain⟨k,rfl⟩:=r;exact .cons y k (qA t)
nonrec def d1l(K:W.Frag):V->List V->Hp->VK->Prop:=λx vs H Q=>∃(z:Str) (p:Addr) (ys:k!),x=.str z/\vs=gD_/\Jf K H p xq!/\(he_).sum+M_*dW_<=16777216/\Q xq_ H
def a8a:MtR X "str.join" (d1l X.K):=by intro J s Z H x xs v us Q I rx r h;obtain⟨z,p,ys,rfl,rfl,hq,hz,q⟩:=h;obtain⟨t,rfl⟩:=rx;obtain⟨u,rfl,r1⟩:=Uz r;cases r1;obtain⟨its,rv,pl,_⟩:=I.list hq;exact join_list pl.isList (by simpa using qA rv) hz λt' k=>mG!
nonrec def Yh:List D->Option (List Str)
 |[]=>some []
 |.str x::r=>(Yh r).map (x::·)
 |_=>none
def kY{K:W.Frag}{H:Hp}:∀{ds:b_} {vs:k_} {ys:k!},Bc K H ds vs->Yh ds=some ys->vs=ys.map V.str
 |[],vs,ys,r,e=>by cases Fq r;cases e;rfl
 |d::ds,vs,ys,r,e=>by
  obtain⟨v,t,rfl,r1,r2⟩:=Dc r;cases d<;>first|(cases e;done)|skip
  obtain⟨RW,e1,rfl⟩:=AO.mp e;cases Dj r1;rw[kY r2 e1];rfl
nonrec def Ug:D->D->Option D
 |.str z,.lst xs=>(Yh xs).bind λys=>if(he_).sum+M_*dW_<=big then some xq_ else none
 |_,_=>none
nonrec def sA(fo fa:d_):Ag->Option D:=λρ=>(fo ρ).bind λx=>(d8_).bind λy=>Ug x y
def a8y{fo:d_}{ag ab:Pos}(ho:DE X own o fo)(ha:R!)
  (df:attributeBase o "join" X.env c3_=eval o X.env:=by rfl)
  (gk:((oI_).all cB!&&(cB_).all cC!
   &&decide oJ!)=true:=by rfl)
  (dh:cA_:=by rfl) (hs:jZ_:=by rfl) (gn:g7_:=by rfl):
  DE X own (.Call (.Attribute o "join" ag) [a] [] ab) (sA fo fa):=
 Ja (qX PySem.F.plainAttrs_str PySem.F.slot_str_join PySem.F.type_str_join a8a ho.ok xs_ df gk dh hs gn) λZ G H Q ρ d er e k=>by
  show"!;";obtain⟨y,e2,e⟩:=AB.mp e;unfold Ug at e;show"!5"
  .obtain⟨ys,e3,e⟩:=AB.mp e;show"!5"
   .show"!B";refine fj!;cases Dj r1;refine⟨rfl,G1,ρ,_,dk_,e2,xt!⟩;obtain⟨p,vs,rfl,q,rr⟩:=Cp r2;have:=kY rr e3;subst this;exact⟨_,p,ys,rfl,rfl,s2.sub.seq q,BN hl c!,k _ G2 H2 dl_ Bl.str⟩
   .cases e
  .cases e
end
section
variable{prog:Program}{w:World}{A:Around}{E:Value->Shared->Prop}{s:Shared}
def uM{n:Nat}{xs:ab!}{Q:p_}(g1:xt_)(g2:xu!)(g3:xs[n]?=some v)
  (k:∀h',h'.IsTupleIter jt tt bD!->Heap.SameBut jt s.heap h'->Q v {s with heap:=h'}):wpAny n_ A xu_ Q E s:=by
 show"!z";refine AA (JR eo ed c_ (AC ⟨v,rfl,AC (k _ ?_ eg_)⟩));exact⟨_,FY _ eo (Obj.isFreed_of_fields (HV ed _)),(xz_).trans ec,by rw[HV ed];simp[rawInt]⟩
def lZ{n:Nat}{xs:ab!}{Q:p_}(hh:eW!)(g1:xt_)(g2:xu!)(g3:xs[n]?=none)
  (k:∀h' e,Heap.ExtBut jt s.heap h'->(∃o,h'.get? e=some o/\o.cls=.type "StopIteration")->E (.ref e) {s with heap:=h'}):wpAny n_ A xu_ Q E s:=by
 show"!z";refine AA (EB (AA (JR eo ed c_ ?_)));show wpAny _ _ xB_ _ _ _;refine AA ?_;simp only[newExc,newTuple];refine AA (DM ?_ ki_);refine AA (m:=xC!) (wpAny_of_eq (a:=cT!) xC_ ?_);refine DM ?_ ki_;simp only[raiseNew];refine AA xD!
 first|rw[xD_]|rw[hh]
 refine AA xE!;exact k _ _ xE_ oL_
def Ds{h h':Heap}{n:Nat}(x:h.IsTupleIter aa tt n)(hs:Heap.ExtBut bb h h')(ne:aa≠bb):h'.IsTupleIter aa tt n:=let⟨ob,eo,r⟩:=x;⟨ob,hs _ _ ne eo,r⟩
def a2w{TI TO:Addr}{k1 k2:Nat}{xs ys:ab!}{Q:p_}(D:kj!)
  (gz:kj_)(gI:kk!)(gO:kk_)
  (g1:kl!)(g2:kl_)(ik:hf_)(iq:hg!)(gx:xF_)(gy:xG!)
  (kk:∀h',IsZip h' z TI TO (rawInt p!)->IsPair h' TO x y->h'.IsTupleIter i1 l1 (k1+1)->h'.IsTupleIter i2 l2 (k2+1)->IsPair h' s.heap.objs.size x y->
   km!->Q c5_ {s with heap:=h'}):
  wpAny n_ A xG_ (λfin s'=>∃v,fin=.done (.ret v)/\Q v s') E s:=by
 show"#%"
 replace lj:IsZip B z TI TO .ellipsis:=lj
 refine AA ?_;simp only[EM,IJ,FP,HI];refine AA kn!;show wpAny _ _ xL_ _ _ _;refine AA xN!;have sk:IsPair Y TO p q:=bj.extBut _ _ D.TOi1 xN_;refine AA xO!;refine AA xO_
 replace vw:IsPair h3 TO x q:=vw
 refine AA (IQ ac_);refine AA kn!;show wpAny _ _ xP! _ _ _;refine AA (uM xP_ xQ! gy λh4 RX jk=>AC ?_);have MZ:IsPair h4 TO x q:=jk.extBut _ _ D.TOi2 vw;refine AA (FQ MZ rfl ?_);refine AA (JM MZ λh5 vx lm=>?_)
 replace vx:IsPair h5 TO x y:=vx
 refine AA (IQ (AC ac_));refine AA (FQ vx rfl ?_);refine AA (wpAny_newTuple ?_);have sz:fo_=p!:=by rw[lm.1,jk.1,c9.1,bj.1,b6.1]
 have NA:IsZip h5 z TI TO .ellipsis:=lm.extBut _ _ D.TOz.symm (jk.extBut _ _ D.i2z.symm xQ_);have RY:∀c ob,c≠z->c≠TO->c≠i1->c≠i2->s.heap.get? c=some ob->h5.get? c=some ob:=λc ob c1 c2 c3 c4 e=>lm.extBut _ _ c2 (jk.extBut _ _ c4 (c9.extBut _ _ c2 (bj.extBut _ _ c3 (b6.extBut _ _ c1 e))));have RZ:h5.IsTupleIter i1 l1 (k1+1):=Ds (Ds (Ds MY c9.extBut D.TOi1.symm) jk.extBut D.i12) lm.extBut D.TOi1.symm;have SA:h5.IsTupleIter i2 l2 (k2+1):=Ds RX lm.extBut D.TOi2.symm;have NB:z<fo_:=BF NA;show wpAny _ _ (Builtin.SmallTypes.ownedTupleHandOut dr_ (.ref fo_)>>=_) _ _ _;refine AA ?_;unfold Builtin.SmallTypes.ownedTupleHandOut;have SC:IsZip (h5.push {cls:=.type "tuple",data:=.seq #[x,y]}) z TI TO .ellipsis:=AG _ NA;refine AA (FU SC c_ λh7 yo NC=>?_)
 replace yo:IsZip h7 z TI TO (rawInt fo_):=yo
 refine FU yo c_ λh8 vy ND=>?_
 replace vy:IsZip h8 z TI TO (rawInt fo_):=vy
 have up:∀c ob,c≠z->h5.get? c=some ob->h8.get? c=some ob:=λc ob c1 e=>ND.extBut _ _ c1 (NC.extBut _ _ c1 (AG _ e));have NE:IsPair h8 h5.objs.size x y:=ND.extBut _ _ (GQ NB) (NC.extBut _ _ (GQ NB) oN!);rw[sz]at vy NE;refine AC oN_;show Q (.ref fo_) _;rw[sz];obtain⟨vz,SD,r1⟩:=RZ;obtain⟨pz,SE,r2⟩:=SA;exact kk h8 vy (up _ _ D.TOz vx) ⟨vz,up _ _ D.i1z SD,r1⟩ ⟨pz,up _ _ D.i2z SE,r2⟩ NE λc ob c1 c2 c3 c4 e=>up c ob c1 (RY c ob c1 c2 c3 c4 e)
def a9j{TI TO:Addr}{k1 k2:Nat}{xs ys:ab!}{Q:Fin->Shared->Prop}(hh:eW!)(D:kj!)
  (gz:kj_)(gI:kk!)(gO:kk_)
  (g1:kl!)(g2:kl_)(ik:hf_)(iq:hg!)(ge:xR!)
  (kk:∀h' e,km!->(∃ob,h'.get? e=some ob/\ob.cls=.type "StopIteration")->E (.ref e) {s with heap:=h'}):
  wpAny n_ A xG_ Q E s:=by
 show"#%"
 replace lj:IsZip B z TI TO .ellipsis:=lj
 refine AA ?_;simp only[EM,IJ,FP,HI];refine AA kn!;show wpAny _ _ xL_ _ _ _;cases gx:xs[k1]? with
 |none=>
  refine AA (lZ hh xM! xM_ gx λY e bj he=>?_);obtain⟨oe,nj,sn⟩:=he;have NG:IsZip Y z TI TO .ellipsis:=bj _ _ D.i1z.symm lj;have yp:e≠z:=λx=>by subst x;rw[NG]at nj;cases nj;simp at sn
  refine FU NG c_ λh3 _ c9=>kk h3 e (λc ob c1 _ c3 _ x=>c9.extBut _ _ c1 (bj _ _ c3 xR_)) ⟨oe,c9.extBut _ _ yp nj,sn⟩
 |some x=>
  have gy:ys[k2]?=none:=by
   rcases ge with h|h
   .rw[gx]at h;cases h
   .exact h
  refine AA xN!;have sk:IsPair Y TO p q:=bj.extBut _ _ D.TOi1 xN_;refine AA xO!;refine AA xO_;refine AA (IQ ac_);refine AA kn!;show wpAny _ _ xP! _ _ _;refine AA (lZ hh xP_ xQ! gy λh4 e jk he=>?_);obtain⟨oe,nj,sn⟩:=he;have NH:IsZip h4 z TI TO .ellipsis:=jk _ _ D.i2z.symm xQ_;have yp:e≠z:=λx=>by subst x;rw[NH]at nj;cases nj;simp at sn
  refine FU NH c_ λh5 _ lm=>kk h5 e (λc ob c1 c2 c3 c4 x=>lm.extBut _ _ c1 (jk _ _ c4 (c9.extBut _ _ c2 (bj.extBut _ _ c3 xR_)))) ⟨oe,lm.extBut _ _ yp nj,sn⟩
def a3v{TI TO:Addr}{k1 k2:Nat}{xs ys:ab!}{p:Value}{Q:fp!}(D:kj!)
  (gz:kj_)(gI:kk!)(gO:kk_)
  (g1:kl!)(g2:kl_)(ik:hf_)(iq:hg!)(gx:xF_)(gy:xG!)
  (kk:∀h',IsZip h' z TI TO (rawInt p!)->IsPair h' TO x y->h'.IsTupleIter i1 l1 (k1+1)->h'.IsTupleIter i2 l2 (k2+1)->IsPair h' s.heap.objs.size x y->
   km!->Q (some c5_) {s with heap:=h'}):
  wpAny n_ A (pyNext dr_) Q E s:=by
 have gT:s.TypeIs dr_ "zip":=xS_;unfold pyNext;exact AA (HF (CP (name:=ki!) gT JK (BX JK gT xT!
  (a2w D gz gI gO g1 g2 ik iq gx gy λh' a1 a2 a3 a4 a5 a6=>AC (kk h' a1 a2 a3 a4 a5 a6)) xT_)))
def oV{TI TO:Addr}{k1 k2:Nat}{xs ys:ab!}{p:Value}{Q:fp!}(hh:eW!)(D:kj!)
  (gz:kj_)(gI:kk!)(gO:kk_)
  (g1:kl!)(g2:kl_)(ik:hf_)(iq:hg!)(ge:xR!)
  (kk:∀h',km!->Q none {s with heap:=h'}):wpAny n_ A (pyNext dr_) Q E s:=by
 have gT:s.TypeIs dr_ "zip":=xS_;unfold pyNext;refine AA (HF (CP (name:=ki!) gT JK (BX JK gT xT!
  (a9j hh D gz gI gO g1 g2 ik iq ge λh' e hk he=>?_) xT_)))
 obtain⟨ob,ho,hc⟩:=he;exact AA (wpAny_isInstance (T:=xU!) (b:=true) ⟨ob,ho,hc⟩ isSubtype_stop (AC (kk _ hk)))
abbrev zp1(h:Heap)(l1:Addr):Heap:=h.push {cls:=.type "tuple_iterator",data:=.fields #[.ref l1,.int 0 0]}
abbrev zp2(h:Heap)(l1 l2:Addr):Heap:=(zp1 h l1).push {cls:=.type "tuple_iterator",data:=.fields #[.ref l2,.int 0 0]}
abbrev zp3(h:Heap)(l1 l2:Addr):Heap:=(zp2 h l1 l2).push {cls:=.type "tuple",data:=.seq #[.ref cU!,.ref (zp1 h l1).objs.size]}
abbrev zp4(h:Heap)(l1 l2:Addr):Heap:=(zp3 h l1 l2).push {cls:=.type "tuple",data:=.seq #[.none,.none]}
abbrev zp5(h:Heap)(l1 l2:Addr):Heap:=(zp4 h l1 l2).push {cls:=.type "zip",data:=.fields #[.none,.bool false,.bool false,.ref (zp2 h l1 l2).objs.size,.ref (zp3 h l1 l2).objs.size]}
def a4p(l1 l2:Addr)(xs ys:ab!):
  Meets (Builtin.«zip.__new__» ⟨[.type "zip",.ref l1,.ref l2],[]⟩) (λ_ R s=>s.heap.IsTuple l1 xs/\s.heap.IsTuple l2 ys/\R (.ok (.ret (.ref (oO!).objs.size))) {s with heap:=zp5 s.heap l1 l2}):=
 .of_wp λprog w A R s h=>by
  obtain⟨hp,g,d,tk,os⟩:=s;obtain⟨ik,iq,h⟩:=h;have XX:=sub_zip;have SF:Heap.IsTuple (Shared.heap hh_) l1 xs:=ik;have SG:Heap.IsTuple (Shared.heap ⟨hp.push {cls:=.type "tuple_iterator",data:=.fields #[.ref l1,.int 0 0]},g,d,tk,os⟩) l2 ys:=let⟨ob,eo,r⟩:=iq;⟨ob,AG _ eo,r⟩
  wp_walk using wpAny_pyIter_tuple SF,wpAny_pyIter_tuple SG
  exact⟨_,rfl,h⟩
def b8k{xs ys:ab!}{Q:p_}(ik:hf_)(iq:hg!)
  (kk:∀h',IsZip h' (p!+4) (p!+2) (p!+3) .none->IsPair h' (p!+2) c5_ (.ref ac!)->
   IsPair h' (p!+3) .none .none->h'.IsTupleIter s.heap.objs.size l1 0->h'.IsTupleIter ac! l2 0->(∀c ob,s.heap.get? c=some ob->h'.get? c=some ob)->Q (.ref (p!+4)) {s with heap:=h'}):
  wpAny n_ A (call oO_ [.ref l1,.ref l2]) Q E s:=by
 refine callType_new F.called_zip c! (F.typeCall_zip_2 _ _) (F.newCall_zip_2 _ _) (λobj=>F.args_object_init_3 obj _ _) F.entry_zip_new (a4p l1 l2 xs ys) ⟨ik,iq,?_⟩;have z1:(xU_).objs.size=p!+1:=GI ..;have z2:(xV!).objs.size=p!+2:=by rw[GI,z1]
 have z3:(xV_).objs.size=p!+3:=by rw[GI,z2]
 have z4:(oO!).objs.size=p!+4:=by rw[GI,z3]
 have y5:(hi!).get? (oO!).objs.size=some _:=BD _ rfl;have y4:(hi!).get? (xV_).objs.size=some _:=AG _ oN!;have y3:(hi!).get? (xV!).objs.size=some _:=AG _ oP!;have y2:(hi!).get? (xU_).objs.size=some _:=AG _ (AG _ oP!);have y1:(hi!).get? p!=some _:=AG _ (AG _ (AG _ oP!));show _/\_;rw[z2,z3,z4]at y5;rw[z1,z2]at y3;rw[z3]at y4;rw[z1]at y2;rw[z4];exact⟨⟨_,y5,rfl⟩,kk _ y5 y3 y4 ⟨_,y1,rfl,rfl⟩ ⟨_,y2,rfl,rfl⟩ λc ob x=>AG _ (AG _ (AG _ (AG _ (AG _ x))))⟩
end
nonrec def Itz(K:W.Frag)(a b:Addr):It:=
 ⟨λi H=>∃xs ys x y,Lj K H a xs/\Lj K H b ys/\xs[i]?=some x/\ys[i]?=some y,
   λi H v H'=>∃T,v=.ref T/\H T=none/\∀xs ys,Lj K H a xs->Lj K H b ys->∃x y,xs[i]?=some x/\ys[i]?=some y/\H'=upd H T (.tup [x,y]),
   λi H=>∃xs ys,Lj K H a xs/\Lj K H b ys/\(i_<=i\/M_<=i)⟩
def a9p{w:World}{K:W.Frag}{fm:bu_}{n1:Nat}{tp:Pos}{a b TI TO:Addr}(D:ZipApart z TI TO i1 i2 a b):
  oB P w K ds! (Itz K a b) [z,TI,TO,i1,i2] z (λi h=>IsZip h z TI TO .none/\IsPair h TI oM_ oM!/\(∃p q,IsPair h TO p q)/\h.IsTupleIter i1 a i/\h.IsTupleIter i2 b i) where
 mem:=by simp
 obj:=λi h st c hc=>by
  obtain⟨s1,s2,⟨p,q,s3⟩,⟨o4,s4,c4,d4⟩,⟨o5,s5,c5,d5⟩⟩:=st;simp only[AE,BO,DN]at hc;rcases hc with rfl|rfl|rfl|rfl|rfl
  .exact⟨_,s1,oP_⟩
  .exact⟨_,s2,oP_⟩
  .exact⟨_,s3,oP_⟩
  .exact⟨o4,s4,λv y=>by rw[d4]at y;cases y⟩
  .exact⟨o5,s5,λv y=>by rw[d5]at y;cases y⟩
 keep:=λi h h' st k=>by
  obtain⟨s1,s2,⟨p,q,s3⟩,⟨o4,s4,r4⟩,⟨o5,s5,r5⟩⟩:=st;exact⟨k z c_ _ s1,k TI c_ _ s2,⟨p,q,k TO c_ _ s3⟩,⟨o4,k i1 c_ _ s4,r4⟩,⟨o5,k i2 c_ _ s5,r5⟩⟩
 item:=by
  intro X hP hw hK hc i J s Z H E I hf st hg;subst hP hw hK;obtain⟨xs,ys,x,y,qa,qb,L,hy⟩:=hg;obtain⟨s1,s2,⟨p,q,s3⟩,s4,s5⟩:=st;obtain⟨ia,ra,ta,za⟩:=I.tuple qa;obtain⟨ib,rb,tb,zb⟩:=I.tuple qb;obtain⟨u,hu,ru⟩:=ra.get L;obtain⟨v,hv,rv⟩:=rb.get hy;refine a3v D s1 s2 s3 s4 s5 ta tb (x:=u) (y:=v) ir! i6_ λh' a1 a2 a3 a4 a5 a6=>?_;refine⟨_,rfl,wpAny_letOwnedTupleGo_zip (s:=ir_) a1 λY b1 bj=>?_⟩;have p5:Heap.SameBut z h' Y:=bj;have neT:∀c o,s.heap.get? c=some o->p!≠c:=λc o e=>GQ cW!;have fz:=hf z c_;have fO:=hf TO c_;have f1:=hf i1 c_;have f2:=hf i2 c_;have I1:Inv X J Z H {s with heap:=Y,toks:=s.toks}:=by
   have pf:∀(c:Addr),c∈fp_->H c=none:=λc hc=>by
    simp only[AE,BO,DN]at hc;rcases hc with rfl|rfl|rfl|rfl
    .exact fz.1
    .exact fO.1
    .exact f1.1
    .exact f2.1
   have kp:∀c o,c∉fp_->s.heap.get? c=some o->Y.get? c=some o:=λc o hc e=>by
    show"#J";exact p5.extBut _ _ hc.1 (a6 c o hc.1 hc.2.1 hc.2.2.1 hc.2.2.2 e)
   refine I.step (g':=s.gens) (d':=s.drawn) (ch:=fp_) fq! oQ! oR! h5_ oS! h6! h6_ oS_ h7! hj! I.bare
   .simp only[AE,BO,DN]at hc;rcases hc with rfl|rfl|rfl|rfl
    .exact xY_
    .exact xZ!
    .exact x0!
    .exact x1!
   .show"!f"
   .refine(oT!).stay oT_ oU! λ_ _ e'=>e';have hn:=pf d hm;rcases hd with rfl|hd
    .rw[hn]at e;cases e
    .rw[hn]at hd;cases hd
  have sv:H p!=none:=I.hok.fresh x_;have eT:Y.get? p!=some {cls:=.type "tuple",data:=.seq #[u,v]}:=p5.extBut _ _ (neT z _ s1) a5;have I2:Inv X J Z (upd H s.heap.objs.size (.tup [x,y])) {s with heap:=Y,toks:=s.toks}:=by
   have ne:∀c o,H c=some o->c≠p!:=λc o e=>Ea e sv;have SH:∀p∈X.pn++J,p.1≠p!:=λp hp=>BV rX_;refine Inv.step (s:={s with heap:=Y,toks:=s.toks}) (g':=s.gens) (d':=s.drawn) (t':=s.toks) (h':=Y) (ch:=[p!]) I1 fq! x4_ x5! x5_ x6!
    (x6_) x7! x7_ nA_ hj! I1.bare
   .have e:c=p!:=by simpa using hc
    subst e;exact⟨.inr I.sz,GQ I.lt,λx c h=>(λz=>by obtain⟨v,o,ho,_⟩:=I.cell x c h;rw[z]at ho;exact absurd h2! dF!),SH⟩
   .rw[nB_];exact n
   .by_cases O:c=p!
    .show"!|";exact⟨by show 2<=sizeLine;rw[CH];decide,[u,v],.cons ru (.cons rv .nil),⟨_,eT,rfl,_,rfl⟩⟩
    .rw[Bn O]at e;exact(x8!).stay nC! x9! λd xs q=>by rw[oV_];exact q
  refine⟨cA!,_,I2,rfl,⟨_,rfl,sv,λgb RW j8 sw=>⟨x,y,?_,?_,rfl⟩⟩,⟨b1,p5.extBut _ _ D.TIz (a6 TI _ D.TIz D.TITO D.TIi1 D.TIi2 s2),⟨u,v,p5.extBut _ _ D.TOz a2⟩,Ds a3 p5.extBut D.i1z,Ds a4 p5.extBut D.i2z⟩,kp_⟩
  .rw[I.tuple_inj j8 qa];exact L
  .rw[I.tuple_inj sw qb];exact hy
  .have yq:=(hf c hc).1;have a8:∃o,s.heap.get? c=some o:=by
    obtain⟨o4,t4,_⟩:=s4;obtain⟨o5,t5,_⟩:=s5;simp only[AE,BO,DN]at hc;rcases hc with rfl|rfl|rfl|rfl|rfl
    .exact⟨_,s1⟩
    .exact⟨_,s2⟩
    .exact⟨_,s3⟩
    .exact⟨_,t4⟩
    .exact⟨_,t5⟩
   obtain⟨o,ho⟩:=a8;rw[Bn (AK (neT c o ho))];exact yq
 done:=by
  intro X hP hw hK hc i J s Z H E I hf st hg;subst hP hw hK;obtain⟨xs,ys,qa,qb,SI⟩:=hg;obtain⟨s1,s2,⟨p,q,s3⟩,s4,s5⟩:=st;obtain⟨ia,ra,ta,za⟩:=I.tuple qa;obtain⟨ib,rb,tb,zb⟩:=I.tuple qb;have l1:=ra.length;have l2:=rb.length;refine oV bg! D s1 s2 s3 s4 s5 ta tb (by
   rcases SI with h|h
   .left;simp;omega
   .right;simp;omega) λY a6=>m_
  have fz:=hf z c_;have fO:=hf TO c_;have f1:=hf i1 c_;have f2:=hf i2 c_;have pf:∀(c:Addr),c∈fp_->H c=none:=λc hc=>by
   simp only[AE,BO,DN]at hc;rcases hc with rfl|rfl|rfl|rfl
   .exact fz.1
   .exact fO.1
   .exact f1.1
   .exact f2.1
  have kp:∀c o,c∉fp_->s.heap.get? c=some o->Y.get? c=some o:=λc o hc e=>by
   show"#J";exact a6 c o hc.1 hc.2.1 hc.2.2.1 hc.2.2.2 e
  refine I.step (g':=s.gens) (d':=s.drawn) (t':=s.toks) (ch:=fp_) fq! oQ! oR! h5_ oS! h6! h6_ oS_ h7! hj! I.bare
  .simp only[AE,BO,DN]at hc;rcases hc with rfl|rfl|rfl|rfl
   .exact xY_
   .exact xZ!
   .exact x0!
   .exact x1!
  .show"!f"
  .refine(oT!).stay oT_ oU! λ_ _ e'=>e';have hn:=pf d hm;rcases hd with rfl|hd
   .rw[hn]at e;cases e
   .rw[hn]at hd;cases hd
 self:=λA i s Q E st h=>wpAny_pyIter_zip st.1 h
section
variable{X:Cx}{own:List Nat}{e a b c o i tg:Expr}{es fm:List Expr}{pos p2 p tp:Pos}{f fa fb fc fe:Ag->Option D}{n1:Nat}
def c0w{ta:TA}(hg:Gl X "zip")(hm:yb!)(hv:yb_)(ha:PA X ag! ta)(hs:yc!:=by rfl)(av:yc_:=by rfl):
  PI X ds! yd! (λZ H R=>ta Z H λvs H1=>∃x y xs ys,vs=[.ref x,.ref y]/\Lj X.K H1 x xs/\Lj X.K H1 y ys/\R (Itz X.K x y) H1):=by
 intro J s Z H R I h;refine Call_ (Rc I hg hm hv (CU mk! hs av));obtain⟨x,y,xs,ys,rfl,qx,qy,q⟩:=q1;obtain⟨u,u',rfl,ru,ap⟩:=a6f r1;cases ru;cases ap;obtain⟨ia,ra,NI,za⟩:=I1.tuple qx;obtain⟨ib,rb,NJ,zb⟩:=I1.tuple qy;have lx:x<z_:=by obtain⟨ob,eo,_⟩:=NI;exact BF eo
 have ly:y<z_:=by obtain⟨ob,eo,_⟩:=NJ;exact BF eo
 refine b8k NI NJ λh' a1 a2 a3 a4 a5 a6=>?_;refine wpAny_pyIter_zip a1 ?_;have I2:Inv X J Z H1 {s1 with heap:=h',toks:=s1.toks}:=I1.kept (t':=s1.toks) a6;have D:ZipApart (z_+4) (z_+2) (z_+3) s1.heap.objs.size (z_+1) x y:=by
  constructor<;>(intro z;have z':@Eq Nat _ _:=z;have l1:@LT.lt Nat _ x _:=lx;have l2:@LT.lt Nat _ y _:=ly;omega)
 refine⟨_,_,_,Itz X.K x y,H1,rfl,I2,a9p D,⟨a1,a2,⟨_,_,a3⟩,a4,a5⟩,kp_,q⟩;have jl:z_<=c:=by
  simp only[AE,BO,DN]at hc;rcases hc with rfl|rfl|rfl|rfl|rfl<;>omega
 exact I1.fpOk jl (I1.hok.fresh jl)
nonrec def Ul:List D->List D->List D
 |x::xs,y::ys=>.tup [x,y]::Ul xs ys
 |_,_=>[]
nonrec def c8d(fa fb:d_):Ag->Option aG_:=λρ=>(d8_).bind λx=>(gV_).bind λy=>match x,y with|.tup xs,.tup ys=>some kr!|_,_=>none
def xJ:∀(xs ys:b_) (n:Nat) (d:D),kr![n]?=some d->∃x y,xs[n]?=some x/\ys[n]?=some y/\d=.tup [x,y]
 |[],_,n,d,h=>by simp[Ul]at h
 |_::_,[],n,d,h=>by simp[Ul]at h
 |x::xs,y::ys,0,d,h=>by
  simp[Ul]at h;exact⟨x,y,rfl,rfl,h.symm⟩
 |x::xs,y::ys,n+1,d,h=>by
  obtain⟨u,v,B,Y,h3⟩:=xJ xs ys n d (by simpa[Ul]using h);exact⟨u,v,hS_,by simpa using Y,h3⟩
def xI:∀(xs ys:b_),i_<=(kr!).length\/M_<=(kr!).length
 |[],ys=>.inl cL!
 |_::_,[]=>.inr cL!
 |x::xs,y::ys=>by
  rcases xI xs ys with h|h
  .left;simp[Ul];exact h
  .right;simp[Ul];exact h
def c2a{K:W.Frag}{G1:Hp}{es:b_}(qa:Lj K G1 x vs)(qb:Lj K G1 y ws)(ra:Bc K G1 ds vs)(rb:Bc K G1 es ws):ItD K (Itz K x y) (Ul ds es) G1:=by
 intro n G' H' s1 s2;have j8:Lj K H' x vs:=Df s2 (Df s1 qa);have sw:Lj K H' y ws:=Df s2 (Df s1 qb);refine⟨cH_,λhn=>⟨vs,ws,j8,sw,?_⟩⟩
 .obtain⟨u,v,B,Y,rfl⟩:=xJ ds es n d hd;obtain⟨v1,g1,r1⟩:=Kj ra B;obtain⟨v2,g2,r2⟩:=Kj rb Y;refine⟨⟨vs,ws,v1,v2,j8,sw,g1,g2⟩,λx' fg hy=>?_⟩;obtain⟨T,rfl,hT,hh⟩:=hy;obtain⟨x1,y1,e1,e2,rfl⟩:=hh vs ws j8 sw;rw[g1]at e1;rw[g2]at e2;cases e1;cases e2;exact⟨_,Ed.laid s2 hT,Jm (s2.free hT) (Bc.cons (r1.mono s1) (Bc.cons (r2.mono s1) Bc.nil))⟩
 .rw[hn,<-Aq ra,<-Aq rb];exact xI ds es
def c8t(hg:Gl X "zip")(hm:yb!)(hv:yb_)(ha:R!)(O:cf_)(hs:yc!:=by rfl)
  (bj:starEach [b] X.env=ix!::starEach [] X.env:=by rfl)(av:yc_:=by rfl):DI X own ds! yd! (c8d fa fb):=
 a1r (c0w hg hm hv (Gs ha.ok (Gs O.ok Ku bj) hs) hs av) λZ G H R ρ ds er e k=>by
  obtain⟨x,e1,e⟩:=AB.mp e;obtain⟨y,e2,e⟩:=AB.mp e;cases x with
  |tup xs=>
   cases y with
   |tup ys=>
    cases e;refine yg!;obtain⟨p,vs,rfl,q,rr⟩:=Cz gW!;obtain⟨p',ws,rfl,q',bx⟩:=Cz r2;exact⟨p,p',vs,ws,rfl,Df s2.sub q,Df s2.sub q',k _ G2 H2 dl_ (c2a q q' rr bx)⟩
   |_=>cases e
  |_=>cases e
end
nonrec def Ih:D->D->Option D:=Hm zY λi j=>.int (i*j)
def eB{K:W.Frag}:Pb K mt_ Ih:=c7d
nonrec def En:D->D->Option D:=Hm oe! λi j=>.int (i%j)
def Kw{K:W.Frag}:Pb K mu_ En:=c7e
nonrec def Ey:D->D->Option D:=Hm ww_ λi j=>.int (i / j)
def Xh{K:W.Frag}:Pb K mu! Ey:=c1l
nonrec def Lr:D->D->Option D:=Hm wx! λi j=>.int mv_
def c6y{K:W.Frag}:Pb K mw! Lr:=c7c
nonrec def Rz:D->D->Option D:=Eo λi j=>.bl mx!
def a7v{K:W.Frag}:Pb K mx_ Rz:=d2f
nonrec def Uw:D->D->Option D:=Eo λi j=>.bl pG_
def b5f{K:W.Frag}:Pb K mz_ Uw:=d2h
nonrec def cD:D->D->Option D:=Eo λi j=>.bl mA!
def d2e{K:W.Frag}:Pb K mA_ cD:=d2i
section
variable{X:Cx}{own:List Nat}{pos p2:Pos}
def Vo:Md X my! yh_:=d2a.or b0q
nonrec def Si:D->D->Option D
 |.int i,.int j=>some (.bl mz!)
 |.str x,.str y=>some (.bl (qE x y))
 |_,_=>none
def Vp{K:W.Frag}:Pb K yh_ Si:=by
 show"!0";unfold Si at e;show"!5"
 .show"!d";exact .inl oZ!
 .cases Dj rx;cases Dj ry;cases e;exact .inr oZ!
 .cases e
nonrec def Vv:D->D->Option D
 |.int i,.int j=>some (.bl (!(i==j)))
 |.str x,.str y=>some (.bl (!(x==y)))
 |_,_=>none
def rA{K:W.Frag}:Pb K rNe Vv:=by
 show"!0";unfold Vv at e;show"!5"
 .show"!d";refine m_;rw[a8x];show"!u"
 .cases Dj rx;cases Dj ry;cases e;refine m_;rw[a8w];show"!u"
 .cases e
def Nx{x:Str}{i:Int}(hm:∃t,X.mg x=some dC!)(hg:R_)(hd:F_:=by decide):DE X own cZ_ (fC bd_):=by obtain⟨t,ht⟩:=hm;exact c2y hg ht hd
end
def Dp{X:Cx}{scope sc:Scope}(h:X.env.scope=sc)(hd:∀y∈ca!,y.2=.free->(sc.names.lookup y.1=some .cell\/sc.names.lookup y.1=some .free)):
  ∀y∈ca!,y.2=.free->vN!:=λy hy hf=>by
 unfold Env.kindOf;rw[h];exact hd y hy hf
section
variable{X:Cx}{own:List Nat}{a b c:Expr}{pos p2:Pos}{fa fb fc:Ag->Option D}
def b7m{op ez:CmpOp}{r r':R2}{g g':aX!}(ho:b3_)(hg:d9!)(eh:iI_)(sj:Pb X.K r' g')(ha:R!)(O:cf_)(hc:DE X own c fc)
  (hm:iJ!:=by with_unfolding_all rfl):DT X own iJ_ (fT xb!):=
 nO (b4j ho eh ha.ok O.ok hc.ok hm) λZ G H Q ρ d er e k=>by
  have e:=Tn e;obtain⟨x,e1,e⟩:=AB.mp e;obtain⟨y,e2,e⟩:=AB.mp e;obtain⟨z,e3,e⟩:=AB.mp e;refine xb_;have nh:=s1.trans gW_;cases z with
  |bl bb=>
   cases Fo r3;refine xc_;cases bb with
   |true=>
    obtain⟨u,e4,e⟩:=AB.mp e;refine Wi ⟨G3,ρ,u,er.grow nh,e4,λq G4 H4 s4 r4=>sj s4.sub xd! r4 e λv G5 H5 s5 r5=>?_⟩;cases Fo r5;exact⟨d,rfl,k G5 H5 xd_⟩
   |false=>
    cases e;exact Wj ⟨false,rfl,k G3 H3 nh⟩
  |_=>cases e
def b1p{x:Str}{bn:aP_}(hd:a2r X x bn)(hg:R_)(ha:R!)(hm:behindInMarks .NotIn dm_=false:=by rfl)(be:F_:=by decide):DT X own (.Compare a [.NotIn] [cH!] pos) (fT (c2k bn true fa)):=by
 show"#K";refine nO (t:=λZ H Q=>tD X.K own fa Z H λv H1=>∃y,v=.str y/\Q (!(aM kvs eg!).isSome) H1) xg_ λZ G H Q ρ d er e k=>?_
 .refine JE (Gn xh! λv s1 ⟨y,H1,I1,r1,z,hz,q1⟩=>Te I1 hg j0 ?_ be) hm;subst hz;refine wpAny_notIn_of (knd:=xi_) (k:=oF_) xj! MV (yj _ I1.kIn).mapOf ?_;rw[<-(yk.val oF!).isSome_eq];exact CA ⟨H1,I1.tok _,q1⟩
 .have e:=Tn e;obtain⟨x,e1,e⟩:=AB.mp e;cases x with
  |str y=>
   cases e;refine fj!;cases Dj r1;refine⟨y,rfl,?_⟩;have O:(aM kvs eg!).isSome=(oE_).isSome:=by
    cases ht:bn.lookup y with
    |none=>rw[(hn y).mpr ht];rfl
    |some d=>obtain⟨v,hv,_⟩:=hs y d ht;rw[hv];rfl
   rw[O];exact k G1 H1 s1
  |_=>cases e
end
def Ix:bootBuiltins "len"=some sO!:=by decide+kernel
def c9l:bootBuiltins "abs"=some sI_:=by decide+kernel
def c9j:bootBuiltins "ord"=some sL!:=by decide+kernel
def wZ:bootBuiltins "all"=some wF!:=by decide+kernel
def Ej:bootBuiltins "isinstance"=some oh_:=by decide+kernel
def c9k:bootBuiltins "int"=some bB!:=by decide+kernel
def c3j:bootBuiltins "bool"=some bB_:=by decide+kernel
def fH:bootBuiltins "str"=some a4_:=by decide+kernel
def cS:bootBuiltins "tuple"=some bC!:=by decide+kernel
def a9e:bootBuiltins "list"=some a8!:=by decide+kernel
def c9i:bootBuiltins "zip"=some oO_:=by decide+kernel
nonrec def Mc(K:W.Frag)(mg:C!)(x:Str)(st:Stmt)(ps:k!):Prop:=∃σ fd,Fun K x x st σ fd/\Js K fd ps []/\mg x=some bP_
nonrec def Er(N:k!)(n:Nat)(q:aI_)(ds:b_):Option D:=if f_=n then(match q ha_ with|some (.rt d)=>some d|some (.nx _)=>some .non|none=>none)else none
def Iy{K:W.Frag}{mg:C!}{st:Stmt}{ps:k!}{k:Nat}{h2:j_}{q:aI_}(h:yi_)(S:dZ!)
  (O:∀{σ:Addr} {ae:Value} {A:Around} {outer:as!} {s:Shared} {H:Hp} {E:XK},Ax k oZ_->DSs (o0!).nox [] h2 bN! q):
  Ok P w K mg base Q! x ps (Er N ps.length q):=by
 obtain⟨σ,fd,F,hb,m⟩:=h;refine⟨σ,fd,c8w F S (λae A outer s H E hr=>O hr) (λds d hl e=>?_),hb,m,F.kp⟩;unfold Er at e;rw[AQ hl]at e;show"!5"
 .cases e;left;assumption
 .cases e;right;exact⟨_,by assumption,rfl⟩
 .cases e
nonrec def d2r:Const->Option D
 |.int i=>some bd_
 |.str i=>some jG_
 |.bool i=>some (.bl i)
 |.none=>some .non
 |_=>none
mutual
noncomputable def a4v:Nat->Expr->Option D
 |0,_=>none
 |n+1,e=>match e with
  |.Constant c _ _=>d2r c
  |.Tuple es _ _=>(o0_).bind λds=>if f_<=1000 then some di! else none
  |.List es _=>(o0_).bind λds=>if f_<=1000 then some cd! else none
  |_=>none
noncomputable def a4u:Nat->List Expr->Option aG_
 |0,_=>none
 |n+1,[]=>some []
 |n+1,e::es=>(a4v n e).bind λd=>(o0_).bind λds=>some d4_
end
section
variable{X:Cx}{own:List Nat}
def b6e{n:Nat}(h:a4v n e=some d):starEach aK_ X.env=eT_::starEach es X.env:=by
 cases n with
 |zero=>unfold a4v at h;cases h
 |succ n=>
  cases e<;>first|rfl|(simp[a4v]at h;done)
def zX{z:Str}{i:Int}(h:0<=i/\i<=100/\dW_<=100):PySem.MulOk z i:=by
 obtain⟨h0,B,Y⟩:=h;refine⟨?_,λh3 _=>?_,λ_ _=>?_⟩
 .simp only[Bool.or_eq_false_iff,DZ];omega
 .have h4:(100:Int)<=nq! / i:=by
   rw[Int.le_ediv_iff_mul_le a!];omega
  omega
 .have h5:dW_*i.toNat<=100*100:=Nat.mul_le_mul Y a!;unfold PySem.Builtin.Str.tooLong;rw[CH];simp only[DZ];omega
mutual
theorem Qf:∀{n:Nat} {e:Expr} {d:D},a4v n e=some d->DE X own e (fC d)
 |0,e,d,h=>by unfold a4v at h;cases h
 |n+1,e,d,h=>by
  unfold a4v at h;split at h
  .unfold d2r at h;split at h
   .cases h;exact Ae
   .cases h;exact Be
   .cases h;exact On
   .cases h;exact Gx
   .cases h
  .obtain⟨ds,e1,e2⟩:=AB.mp h;split at e2
   .rename_i hl;cases e2;refine Ja (Fw (a5o e1)).ok λZ G H Q ρ d er e k=>?_;show"#M"
   .cases e2
  .obtain⟨ds,e1,e2⟩:=AB.mp h;split at e2
   .rename_i hl;cases e2;refine Ja (fA (a5o e1)).ok λZ G H Q ρ d er e k=>?_;show"#M"
   .cases e2
  .cases h
theorem a5o:∀{n:Nat} {es:bu_} {ds:b_},a4u n es=some ds->DA X own es (λ_=>some ds)
 |0,e,d,h=>by unfold a4u at h;cases h
 |n+1,[],d,h=>by
  unfold a4u at h;cases h;exact Au
 |n+1,e::es,d,h=>by
  unfold a4u at h;obtain⟨d1,e1,h⟩:=AB.mp h;obtain⟨ds,e2,h⟩:=AB.mp h;cases h;exact b7z (Ah (Qf e1) (a5o e2) (b6e e1)).ok λZ G H Q ρ d er e k=>⟨G,ρ,_,er,e,k⟩
end
end
section
variable{P:Program}{w:World}{K:W.Frag}{mg:Str->Option Value}{h:Heap}
def Bx{st:Stmt}{ps:k!}{od an:a6_}{du:b7_}{kV:Value}(X:fq_)(G:fr!)
  (a:yk_)(l:yl_)
  (c:ym!)(k:gI!)
  (b:ym_):Mc K mg x st ps:=
 ⟨f,_,ks_,o1!,o1_⟩
nonrec def c9w(K:W.Frag)(mg:C!)(x:Str)(st:Stmt)(ps:k!):Prop:=∃σ fd,Fun K x x st σ fd/\(∀us:List Value,ar!=S_->bindArgs fd c9_=pure c8_)/\mg x=some bP_
def c2v{st:Stmt}{ps:k!}{od an:a6_}{du:b7_}{kV:Value}(X:fq_)(G:fr!)
  (a:yk_)(l:yl_)
  (c:ym!)(k:gI!)
  (b:ym_):c9w K mg x st ps:=
 ⟨f,_,ks_,b _ _ _ _ _ _,o1_⟩
def cC{i:Int}(X:fq_)(G:fr!)(a:W.nsIn K mainGlobals x=some (some (.int i tk))):∃tk,mg x=some (.int i tk):=⟨tk,o1_⟩
def Jv(X:fq_)(G:fr!)(e:W.nsIn K mainGlobals x=some (some ab_)):mg x=some ab_:=W.mg_of X G e
def Hc(X:fq_)(G:fr!)(e:W.nsIn K mainGlobals x=some none):mg x=none:=W.mg_none_of X G e
def rV{K:W.Frag}{H:Hp}:∀(ns:D!),Bc K H o2! b8_
 |[]=>Bc.nil
 |n::r=>Bc.cons Bl.int (rV r)
abbrev a2i:=Str×Tok×Addr
nonrec def c5v(w:World)(r:a2i):DictEntry:=⟨PyData.keyHash w.params r.1,.str r.1 r.2.1,.ref r.2.2⟩
nonrec def a5w(K:W.Frag):List a2i->List ci_->Prop
 |[],[]=>True
 |r::rs,t::ts=>r.1=t.1/\(∀H,Bl K H t.2 (V.ref r.2.2))/\a5w K rs ts
 |_,_=>False
abbrev a6t(rows:fr_):List (L2.Key×V):=rows.map λr=>(Sum.inr r.1,V.ref r.2.2)
abbrev yN(rows:fr_):List xf_:=rows.map λr=>(Sum.inr r.1,Value.ref r.2.2)
def kX{P:Program}:∀(rows:fr_),Pairs br_ yn_ o3!
 |[]=>.nil
 |r::rs=>.cons (Vw P w r.1 r.2.1) rfl (kX rs)
def dP:∀{rows:fr_} {bn:aP_},a5w K rows bn->(aM o3_ eg!=none↔bn.lookup y=none)/\∀d,bn.lookup y=some d->∃v,aM o3_ eg!=some v/\∀H,Bl K H d v
 |[],[],_=>⟨⟨eS!,eS!⟩,λd e=>by cases e⟩
 |[],t::ts,h=>h.elim
 |r::rs,[],h=>h.elim
 |r::rs,(x,d0)::ts,h=>by
  obtain⟨B,Y,h3⟩:=h;have ih:=dP (y:=y) h3;have j9:r.1=x:=B;unfold aM at ih ⊢;simp only[AH,EH,BY];by_cases e:y=x
  .subst e;have:decide yo_=true:=by simp[j9]
   simp only[this,DY];refine⟨⟨yp!,yp!⟩,λd z=>?_⟩;cases z;exact⟨_,rfl,Y⟩
  .have e1:decide yo_=false:=by
    rw[j9];exact AW λz=>e (yq!).symm
   have e2:(y==x)=false:=by simp[e]
   simp only[e1,e2];exact ih
def a8j:∀(rows:fr_),KV o3_ o3!
 |[]=>.nil
 |r::rs=>.cons bJ_ (a8j rs)
def b7d{X:Cx}{x:Str}{ad:Addr}{rows:fr_}{bn:aP_}{ep:Nat}(hw:X.w=w)(hK:X.K=K)(j0:X.mg=mg)(hm:mg x=some kg!)(hs:oE!=false)(hl:K.lookup ad=some {cls:=.type "dict",data:=.dict (yn_).toArray ep})
  (nd:cL_)(ht:a5w K rows bn):a2r X x bn:=by
 subst hw hK j0;refine⟨ad,a6t rows,yN rows,hm,hs,λh hK=>⟨_,_,_,hK _ _ hl,yq_,rfl,?_,?_,?_⟩,a8j rows,λy=>(dP ht).1,λy d=>(dP ht).2 d⟩
 .intro e he;have cj:e∈rows.map (c5v X.w):=by simpa using he
  obtain⟨r,hr,rfl⟩:=AZ.mp cj;exact⟨Sum.inr r.1,Vw _ _ r.1 r.2.1,rfl⟩
 .simpa using kX (w:=X.w) (P:=X.prog) rows
 .have e:(o3!).map b!=(ku_).map (Sum.inr:Str->L2.Key):=by simp[yN]
  rw[e];exact List.Pairwise.map _ (λa b lh z=>lh yq!) nd
def yT{H:Hp}:∀(fs:ar_),Bc K H (fs.map D.fn) yr_
 |[]=>Bc.nil
 |n::r=>Bc.cons (by unfold Bl;rfl) (yT r)
def qB:∀(fs:ar_),Ce yr_ ys!
 |[]=>.nil
 |n::r=>.cons rfl (qB r)
def Nj{fs:ar_}{od:a6_}{n:Nat}{sl:b7_}(l:K.lookup a=some ⟨cM!,od,.seq (ys!).toArray n,sl⟩)(hz:bs!<=1000)(H:Hp):Bl K H (.tup (fs.map D.fn)) fc!:=
 Bl.tup (.inr ⟨_,_,n,l,rfl,rfl,by simpa using Lw hz,by simpa using qB fs⟩) (yT fs)
end
section
variable{X:Cx}{own bi:List Nat}{e a b c o:Expr}{es:List Expr}{pos p2:Pos}{f fa fb fc fe:Ag->Option D}{fs fi:Ag->Option (List D)}{ft fu:Ag->Option Bool}{st:Stmt}{q1:Ag->Option Fl}
def a2d:Oq X a4_ ys_:=by
 intro J s Z H xs us Q I r h;rcases h with h|⟨z,rfl,q⟩
 .exact wX J s Z H xs us Q I r h
 .obtain⟨u,rfl,t,rfl⟩:=Uz r;exact PySem.P.str_of_str ⟨.str z,H,I,J_,q⟩
nonrec def sR:List D->Option D
 |[.int i]=>if gn_<1920 then some mF_ else none
 |[.str z]=>some (.str z)
 |_=>none
def b8g{K:W.Frag}:Wy K ys_ sR:=by
 show"!>";unfold sR at e;show"!5"
 .show"!4";cases Bp rv;show"!5"
  .show"!B";exact .inl ⟨_,rfl,hl,g1_⟩
  .cases e
 .show"!4";cases Dj rv;cases e;exact .inr ⟨_,rfl,g1_⟩
 .cases e
end
abbrev MK:=Option (Sum L2.Key (List L2.Key))
abbrev d2k:Int:=0xFCA86420
section
variable{P:Program}{w:World}{A:Around}{E:Value->Shared->Prop}{s:Shared}
variable (P w)in
nonrec def Sy(h:Heap):MK->Value->Prop
 |none,v=>v=.none
 |some (.inl k),v=>mY k v=true
 |some (.inr ks),v=>∃a,v=.ref a/\IsTupleKey br_ h ks a
variable (P w)in
nonrec def mkHash:MK->Int
 |none=>d2k
 |some (.inl k)=>d2t w k
 |some (.inr ks)=>tupleKeyHash br_ ks
def a0b(L:Sy P w h x v)(hy:Sy P w h y v):x=y:=by
 rcases x with _|x|x<;>rcases y with _|y|y
 .rfl
 .cases yu!;rcases Ct hy with⟨i,t,_,e⟩|⟨i,t,_,e⟩<;>exact nomatch e
 .cases yu!;obtain⟨a,e,_⟩:=hy;exact nomatch e
 .cases hn!;rcases Ct L with⟨i,t,_,e⟩|⟨i,t,_,e⟩<;>exact nomatch e
 .rw[(br_).inj v x y L hy]
 .obtain⟨a,rfl,_⟩:=hy;rcases Ct L with⟨i,t,_,e⟩|⟨i,t,_,e⟩<;>exact nomatch e
 .cases hn!;obtain⟨a,e,_⟩:=L;exact nomatch e
 .obtain⟨a,rfl,_⟩:=L;rcases Ct hy with⟨i,t,_,e⟩|⟨i,t,_,e⟩<;>exact nomatch e
 .obtain⟨a,rfl,L⟩:=L;obtain⟨b,e,hy⟩:=hy;cases e;rw[L.inj hy]
def Sk{h:Heap}{ks:o6_}(x:IsTupleKey br_ h ks a):∃its,h.IsTuple a its:=by obtain⟨o,its,n,B,Y,h3,_⟩:=x;exact⟨its,o,B,Y,n,h3⟩
def b5w{Q:ej_}(hu:ao!)(L:o7!)(hy:Sy P w s.heap y v)(h:Q (decide (x=y)) s):wpAny L! A (eqBool u v) Q E s:=by
 rcases x with _|x|x<;>rcases y with _|y|y
 .cases hn_;cases hn!;rw[ft!]at h;exact SeqAt.EqAt.same _ _ _ _ _ h
 .cases hn_;rw[ft_]at h;rcases Ct hy with⟨i,t,rfl,rfl⟩|⟨i,t,rfl,rfl⟩
  .exact SeqAt.EqAt.none_int i t _ _ _ _ h
  .exact SeqAt.EqAt.none_str i t _ _ _ _ h
 .cases hn_;rw[ft_]at h;obtain⟨a,rfl,q⟩:=hy;obtain⟨its,q⟩:=Sk q;exact SeqAt.EqAt.none_tuple q hu _ _ _ _ h
 .cases hn!;rw[ft_]at h;rcases Ct L with⟨i,t,rfl,rfl⟩|⟨i,t,rfl,rfl⟩
  .exact SeqAt.EqAt.int_none i t _ _ _ _ h
  .exact SeqAt.EqAt.str_none i t _ _ _ _ h
 .refine(br_).eqBool L hy ?_;by_cases e:x=y
  .subst e;rw[ft!]at h ⊢;exact h
  .rw[AW cT_]at h;rw[AW e];exact h
 .rw[ft_]at h;obtain⟨a,rfl,q⟩:=hy;obtain⟨its,q⟩:=Sk q;rcases Ct L with⟨i,t,rfl,rfl⟩|⟨i,t,rfl,rfl⟩
  .exact SeqAt.EqAt.int_tuple i t q hu _ _ _ _ h
  .exact SeqAt.EqAt.str_tuple i t q hu _ _ _ _ h
 .cases hn!;rw[ft_]at h;show"#:";obtain⟨its,q⟩:=Sk q;exact SeqAt.EqAt.tuple_none q hu _ _ _ _ h
 .rw[ft_]at h;obtain⟨a,rfl,q⟩:=L;obtain⟨its,q⟩:=Sk q;rcases Ct hy with⟨i,t,rfl,rfl⟩|⟨i,t,rfl,rfl⟩
  .exact SeqAt.EqAt.tuple_int i t q hu _ _ _ _ h
  .exact SeqAt.EqAt.tuple_str i t q hu _ _ _ _ h
 .show"#:";obtain⟨b,rfl,q2⟩:=hy;refine wpAny_eqBool_tuple hu q q2 ?_;by_cases e:x=y
  .subst e;rw[ft!]at h ⊢;exact h
  .rw[AW cT_]at h;rw[AW e];exact h
def a0a{Q:ej_}(L:o7!)(h:Q true s):wpAny L! A (eqIsQuiet 8 u) Q E s:=by
 rcases x with _|x|x
 .cases hn_;rw[eqIsQuiet_byValue _ rfl];exact AC h
 .rw[eqIsQuiet_byValue _ ((br_).byValue x u L)];exact AC h
 .show"#:";exact wpAny_eqIsQuiet_tuple q h
def iX{Q:Int->Shared->Prop}(hu:ao!)(L:o7!)(h:∀tk,Q (mkHash P w x) {s with toks:=tk}):wpAny L! A (pyHash u) Q E s:=by
 rcases x with _|x|x
 .cases hn_;unfold pyHash;have hv:[cT!].any Value.onHeap=false:=rfl;refine AA ?_;rw[cRoomFor,AI (by rw[hv];exact BC)];refine AC ?_;have hT:s.TypeIs .none "NoneType":=rfl;refine AA yv_;rw[AI (show¬(some (Value.builtin "NoneType.__hash__")==some Value.none)=true by rw[beq_builtin_none];exact BC)];refine AA yv_;show wpAny _ _ (callSpecialIfBoundUnlessNone? Value.none (Str.ofString "__hash__") _>>=_) _ _ _;refine AA (wpAny_callSpecialIfBoundUnlessNone?_slot hT FV (BX FV hT PySem.F.entry_NoneType_hash ?_ (PySem.F.args_NoneType_hash_1 _)));refine wpAny_ret_mkInt ?_;exact AC (h _)
 .exact(br_).pyHash L (h _)
 .show"#:";exact wpAny_pyHash_tuple hu q (h _)
end
nonrec def Yb(ks:bb_)(k:MK):Option Nat:=ks.findIdx? λx=>decide (x=k)
nonrec def No(ks:bb_)(k:MK)(i:Nat):Bool:=decide (ks[i]?=some k)
def bW{ks:bb_}{j:Nat}(h:yx!):ks[j]?=some k/\∀i,i<j->ks[i]?≠some k:=by obtain⟨B,Y,h3⟩:=List.findIdx?_eq_some_iff_getElem.mp h;refine⟨by rw[BB B];exact congrArg some (DH Y),λi hi e=>?_⟩;have:=h3 i hi;obtain⟨q1,q2⟩:=BA.mp e;rw[q2]at this;simp at this
def a0t{ks:bb_}(h:Yb ks k=none)(i:Nat):ks[i]?≠some k:=λe=>by
 have:=List.findIdx?_eq_none_iff.mp h k (GS e);simp at this
def a5i(ks:bb_)(k:MK):(List.range kw_).find? du_=Yb ks k:=by
 cases h:Yb ks k with
 |none=>
  rw[List.find?_eq_none];intro i hi z;exact a0t h i (DH z)
 |some j=>
  obtain⟨B,Y⟩:=bW h;rw[List.find?_range_eq_some];refine⟨by unfold No;exact BK B,GM.mpr (g7!).1,fu_⟩;unfold No;rw[AW (Y i hi)];rfl
section
variable{P:Program}{w:World}{A:Around}{E:Value->Shared->Prop}{s:Shared}
variable (P w)in
structure cZ(h:Heap)(es:bM!)(ks:bb_):Prop where
 len:es.size=kw_
 at_:∀(i:Nat) (e:DictEntry) (k:MK),es[i]?=some e->ks[i]?=some k->Sy P w h k e.key/\e.hash=mkHash P w k
 nd:ho!
def cZ.get{es:bM!}{ks:bb_}(x:kx_){i:Nat}{e:DictEntry}(q:es[i]?=some e):∃k,ks[i]?=some k/\Sy P w h k e.key/\e.hash=mkHash P w k:=by
 have hl:i<kw_:=by rw[<-x.len];exact(HA.mp q).1
 exact⟨ks[i],BB hl,x.at_ i e _ q (BB hl)⟩
def cZ.one{es:bM!}{ks:bb_}(x:kx_){i j:Nat}(B:No ks k i=true)(Y:No ks k j=true):i=j:=by have e1:=DH B;have e2:=DH Y;exact(List.getElem?_inj (BA.mp e1).1 x.nd).mp ra_
abbrev plc(es:bM!)(h:Int):List Nat:=placesWithHash es.size (λi=>es[i]?.map (·.hash)) h
def a1l{es:bM!}{ks:bb_}(x:kx_)(k:MK):(ky!).find? du_=Yb ks k:=by
 unfold plc placesWithHash;rw[List.find?_filter,<-a5i,x.len];congr 1;funext i;cases hp:No ks k i with
 |false=>simp
 |true=>
  have e1:=DH hp;have hl:i<es.size:=by rw[x.len];exact(BA.mp e1).1
  obtain⟨k',q1,q2,q3⟩:=x.get (BU hl);rw[e1]at q1;cases q1;simp[BU hl,q3]
def b4o{es:bM!}{h:Int}{i:Nat}(hi:i∈plc es h):i<es.size:=by have:=(DO.mp hi).1;simpa using this
def c6k{es:bM!}{h:Int}:(plc es h).Nodup:=List.nodup_range.sublist GX
def a2y{o:Obj}{es:bM!}{ep:Nat}{ks:bb_}{Q:yB_}(hu:ao!)(x:uY!)(hk:ek_)
  (ho:yD!)(hd:u1_)(h:Q hq! s):wpAny L! A yC_ Q E s:=by
 show"!o";generalize plc es dv!=ay at hf hl ⊢;rw[<-hf]at h;unfold dictWalkPlain;refine AA (IT _ (λrest b s'=>s'=s/\b=el!/\rest.find? du_=ay.find? du_/\∀i∈rest,i<es.size) _ ?_ ?_ _ _ ⟨rfl,rfl,rfl,hl⟩)
 .rintro i rest b s' ⟨rfl,rfl,B,Y⟩;have am:=Y i AL;have he:es[i]?=some es[i]:=BU am;obtain⟨k',q1,q2,q3⟩:=x.get he;have no:k'≠k->rest.find? du_=ay.find? du_:=λb7=>by
   rw[<-B,EH];have:No ks k i=false:=by unfold No;rw[q1];exact AW yD_
   rw[this]
  show"#.";rw[he];show"#4";split
  .refine AA pa!;rw[Z!];by_cases lp:k'=k
   .subst lp;rw[ft!];have hi:No ks k' i=true:=by unfold No;exact BK q1
    have:ay.find? (No ks k')=some i:=by rw[<-B,EH,hi]
    rw[this]at h;exact AA (EB (AC (AC h)))
   .rw[AW lp];exact AA (EB (AC ⟨rfl,rfl,no lp,rs⟩))
  .rename_i hh;exact AC ⟨rfl,rfl,no yG!,rs⟩
 .rintro b s' ⟨rfl,rfl,B,_⟩;rw[<-B]at h;exact AC h
def xQ{Q:ej_}(hk:ek_)(hl:∀v∈ay,∃k',Sy P w s.heap k' v)(h:Q false s):wpAny L! A (tableMayTell u ay) Q E s:=by
 unfold tableMayTell;split
 .exact AC h
 .refine AA (a0a hk ?_);rw[Z!];refine AA (IT _ (λrest r s'=>s'=s/\r=el!/\∀v∈rest,v∈ay) _ ?_ ?_ _ _ ⟨rfl,rfl,λ_ z=>z⟩)
  .rintro v rest r s' ⟨rfl,rfl,hr⟩;obtain⟨k',q⟩:=hl v (hr v AL);refine AA (a0a q ?_);rw[Z!];exact AC ⟨rfl,rfl,λy hy=>hr y d0_⟩
  .rintro r s' ⟨rfl,rfl,_⟩;exact AC h
def b9g{ks:bb_}{i:Nat}(q1:yI!)(e:k'=k):No ks k i=true:=by unfold No;rw[<-e];exact BK q1
def a9m{ks:bb_}{i:Nat}{rest:j_}{az:pa_}(hc:(az=none/\(i::rest).find? du_=Yb ks k)\/∃j,az=some j/\Yb ks k=some j/\No ks k j=true/\j∉i::rest)(q1:yI!)(b7:¬k'=k):
  yI_\/∃j,az=some j/\Yb ks k=some j/\No ks k j=true/\j∉rest:=by
 rcases hc with⟨e,B⟩|⟨j,e,B,h4,h5⟩
 .refine .inl e3_;rw[<-B,EH];have:No ks k i=false:=by unfold No;rw[q1];exact AW yD_
  rw[this]
 .exact .inr ⟨j,e,B,h4,λz=>h5 (AD _ z)⟩
def eU{v:Value}(q:Sy P w h k v):v.isStr z=decide (k=some hs!):=by
 by_cases e:k=some hs!
 .subst e;rw[ft!];rcases Ct q with⟨i,t,e,_⟩|⟨i,t,e,rfl⟩
  .cases e
  .cases e;simp[Value.isStr]
 .rw[AW e];cases v<;>first|rfl|skip
  rename_i y t;simp only[Value.isStr,EC,ne_eq];rintro rfl;exact e (a0b q (eR y t))
def b7e{es:bM!}{ks:bb_}(x:kx_)(z:Str):(es.findIdx? λe=>e.key.isStr z)=Yb ks (some hs!):=by
 cases hk:Yb ks (some hs!)with
 |none=>
  rw[Array.findIdx?_eq_none_iff];intro e he;obtain⟨i,hi⟩:=Array.mem_iff_getElem?.mp he;obtain⟨k',q1,q2,_⟩:=x.get hi;rw[eU q2];exact AW λ(e:k'=_)=>a0t hk i yJ!
 |some j=>
  obtain⟨B,Y⟩:=bW hk;have hj:j<es.size:=by rw[x.len];exact(g7!).1
  rw[Array.findIdx?_eq_some_iff_getElem];refine⟨hj,?_,fu_⟩
  .obtain⟨k',q1,q2,_⟩:=x.get (BU hj);rw[eU q2];rw[B]at q1;cases q1;exact BK rfl
  .obtain⟨k',q1,q2,_⟩:=x.get (BU (Nat.lt_trans hi hj));rw[eU q2,AW (λ(e:k'=_)=>Y i hi yJ!)];simp
def d1e{g:Prop}(h:∃T:Prop,(T->g)/\T):g:=let⟨_,f,k⟩:=h;f k
def cH{o:Obj}{es:bM!}{ep:Nat}{ks:bb_}{Q:yB_}(hu:ao!)(x:uY!)(hk:ek_)
  (ho:yD!)(hd:u1_)(h:Q hq! s):wpAny L! A (dictFind d u dv!) Q E s:=by
 have bz:∀v∈(ky!).filterMap (λi=>es[i]?.map kz!),∃k',Sy P w s.heap k' v:=λv hv=>by
  obtain⟨i,_,e⟩:=FH.mp hv;obtain⟨e',e1,rfl⟩:=AO.mp e;obtain⟨k',_,q,_⟩:=x.get e1;exact⟨k',q⟩
 have SJ:¬(es.any λe=>e.key==u&&e.hash != mkHash P w k)=true:=λz=>by
  obtain⟨i,hi,z⟩:=Array.any_eq_true.mp z;rw[BH,FR,bne_iff_ne]at z;obtain⟨k',_,q,q3⟩:=x.get (BU hi);rw[z.1]at q;exact z.2 (by rw[q3,a0b q hk])
 show"!o";have p6:(ky!).Nodup:=c6k;have av:wpAny L! A yC_ Q E s:=a2y hu x hk ho hd h;unfold dictFind;refine CC (AA (EL ho hd ?_));refine d1e ?_;apply Exists.intro;apply And.intro
 .intro tl;have ya:(∃a,u=.ref a)\/(∃z t,u=.str z t/\k=some hs!)\/(u=.none\/∃i t,u=.int i t):=by
   clear tl;rcases k with _|k|k
   .exact .inr (.inr (.inl hk))
   .rcases Ct hk with⟨i,t,rfl,rfl⟩|⟨i,t,rfl,rfl⟩
    .exact .inr (.inr (.inr ⟨i,t,rfl⟩))
    .exact .inr (.inl ⟨i,t,rfl,rfl⟩)
   .obtain⟨a,rfl,_⟩:=hk;exact .inl ⟨a,rfl⟩
  rcases ya with⟨a,ea⟩|⟨z,t,ea,NK⟩|ea|⟨i,t,ea⟩
  all_goals rw[ea]
  all_goals dsimp only
  rotate_left
  refine wpAny_ite_split (λgq=>?_) λ_=>?_
  .clear tl;unfold foundByValue;rw[b7e x z,<-NK];cases hj:Yb ks k with
   |none=>rw[hj]at h;exact AC h
   |some j=>
    obtain⟨B,_⟩:=bW hj;have am:j<es.size:=by rw[x.len];exact(g7!).1
    obtain⟨k',q1,q2,_⟩:=x.get (BU am);rw[B]at q1;cases q1;show"#4";rw[BU am,<-ea];refine AA pa!;rw[Z!,ft!];rw[hj]at h;exact AA (EB (AC h))
  all_goals rw[<-ea]
  all_goals refine wpAny_ite_split (λ_=>av) λ_=>?_
  rotate_right
  rw[AI SJ]
  all_goals refine wpAny_ite_split (λ_=>AA ac_) λ_=>AA (xQ hk bz ?_)
  all_goals rw[Z!]
  all_goals exact tl
 refine AA (IT _ (λrest b s'=>s'=s/\∃az,b=(none,az)/\(∀i∈rest,i<es.size)/\rest.Nodup/\
  (yI_\/∃j,az=some j/\Yb ks k=some j/\No ks k j=true/\j∉rest)) _ ?_ ?_ _ _ ⟨rfl,none,rfl,hl,p6,.inl ⟨rfl,hf⟩⟩)
 rotate_left
 .rintro b s' ⟨rfl,az,rfl,_,_,hc⟩;rcases hc with⟨rfl,B⟩|⟨j,rfl,B,_⟩
  .rw[<-B]at h;exact AC h
  .rw[B]at h;exact AC h
 .rintro i rest b s' ⟨rfl,az,rfl,Y,h3,hc⟩;have am:=Y i AL;have he:es[i]?=some es[i]:=BU am;obtain⟨k',q1,q2,q3⟩:=x.get he;obtain⟨n1,n2⟩:=AX.mp h3;show"#.";have stay:=λb7=>a9m hc q1 b7;rw[he];show"#4";split
  .refine AA pa!;rw[Z!];by_cases lp:k'=k
   rotate_left
   .rw[AW lp];simp only[BI,BW,Bool.false_and];exact AA (EB (AC ⟨rfl,az,rfl,rs,n2,stay lp⟩))
   .have hi:=b9g q1 lp;rw[BK lp];rcases hc with⟨rfl,B⟩|⟨j,e,B,h4,h5⟩
    .have hL:=B;rw[EH,hi]at hL;simp only[CF,Option.isSome_none,BI,BW];refine AA hg_;split
     .rw[<-hL]at h;exact AC (AC h)
     .exact AC ⟨rfl,I_,rfl,rs,n2,.inr ⟨i,rfl,hL.symm,hi,n1⟩⟩
    .exact absurd (x.one hi h4) λz=>h5 (z▸AL)
  .rename_i hh;exact AC ⟨rfl,az,rfl,rs,n2,stay yG!⟩
end
nonrec def fJ(h:Heap)(a:Addr)(es:aa!)(ep:Nat):Prop:=∃o,h.get? a=some o/\hU_/\o.data=.dict es.toArray ep
def fJ.typeIs{s:Shared}{a:Addr}{es:aa!}{ep:Nat}(D:hs_):s.TypeIs ab_ "dict":=let⟨o,ho,hc,_⟩:=D;⟨o,ho,hc.1⟩
nonrec def c0o(es:aa!)(j:pa_)(h:Int)(u v:Value):List DictEntry:=match j with
 |some j=>es.modify j λe=>{e with val:=v}
 |none=>es++[⟨h,u,v⟩]
nonrec def c0n(j:pa_)(ep:Nat):Nat:=match j with
 |some _=>ep
 |none=>ep+1
section
variable{P:Program}{w:World}{A:Around}{E:Value->Shared->Prop}{s:Shared}{a:Addr}{es:List DictEntry}{ep:Nat}{ks:List MK}{k:MK}{u v:Value}
def d3g{Q:fp!}(hu:ao!)(D:hs_)(x:kA!)(hk:ek_)(h:∀tk,Q ((hq!).bind λj=>es[j]?.map (·.val)) {s with toks:=tk}):
  wpAny L! A (dictGet a u) Q E s:=by
 obtain⟨o,ho,_,hd⟩:=D;unfold dictGet;refine CC pd!;have h:=h tk;cases hj:Yb ks k with
 |none=>rw[hj]at h;exact AC h
 |some j=>
  rw[hj]at h;refine AA (EL (s:=el_) ho hd ac_);rw[ER];exact h
def jH{h:Heap}{f:Array DictEntry->Array DictEntry}{au:aa!}{o:Obj}(ho:h.get? a=some o)(hc:hU_)(hd:o.data=.dict es.toArray ep)(he:f es.toArray=au.toArray):
  fJ (h.update a (Obj.mapDict f)) a au ep/\fJ (h.update a (Obj.mapDictKeys f)) a au bc!:=
 ⟨⟨_,FY _ ho (Obj.isFreed_of_dict (Obj.data_mapDict hd _)),hc.mapDict _,by rw[Obj.data_mapDict hd,he]⟩,⟨_,FY _ ho (Obj.isFreed_of_dict (Obj.data_mapDictKeys hd _)),hc.mapDictKeys _,by rw[Obj.data_mapDictKeys hd,he]⟩⟩
def d3f{Q:cW_}(hu:ao!)(D:hs_)(x:kA!)(hk:ek_)(hl:pg_)
  (h:∀h' tk,fJ h' a (c0o es hq! dv! u v) (c0n hq! ep)->Heap.SameBut a s.heap h'->Q () {s with heap:=h',toks:=tk}):wpAny L! A yN_ Q E s:=by
 obtain⟨o,ho,hc,hd⟩:=D;unfold dictSet;refine CC (AA (iX hu hk λtk=>?_));unfold dictSetHashed;refine CC (AA yL_);cases hj:Yb ks k with
 |none=>
  rw[hj]at h;exact AA (EB (JN (s:=el_) ho hd (h _ tk (yO!).2 eg_) (hz:=kC!)))
 |some j=>
  rw[hj]at h;exact AA (EB (AA (wpAny_updateDict (s:=el_) ho hd (wpAny_point (h _ tk (yO!).1 eg_)))))
def cM{Q:p_}(hu:ao!)(D:hs_)(x:kA!)(hk:ek_)(hl:pg_)
  (B:∀j e tk,Yb ks k=some j->es[j]?=some e->Q e.val {s with toks:=tk})
  (Y:∀h' tk,Yb ks k=none->fJ h' a (es++[⟨mkHash P w k,u,v⟩]) bc!->Heap.SameBut a s.heap h'->Q v {s with heap:=h',toks:=tk}):wpAny L! A (dictSetDefault a u v) Q E s:=by
 obtain⟨o,ho,hc,hd⟩:=D;unfold dictSetDefault;refine CC pd!;cases hj:Yb ks k with
 |none=>
  exact AA (EB (AA (JN (s:=el_) ho hd (AC (Y _ tk hj (jH ho hc hd c_).2 eg_)) (hz:=kC!))))
 |some j=>
  have am:j<af!:=by
   have:=(BA.mp (bW hj).1).1;rw[<-x.len]at this;show"#>"
  refine AA yP!;rw[ER,BB am];exact AA (EB (AC (B j _ tk hj (BB am))))
def c8m{j:Nat}{e:DictEntry}{Q:Option DictEntry->Shared->Prop}(hu:ao!)(D:hs_)(x:kA!)(hk:ek_)(hl:pg_)(hj:yx!)(he:es[j]?=some e)
  (h:∀h' tk,fJ h' a yQ! bc!->Heap.SameBut a s.heap h'->Q ij! {s with heap:=h',toks:=tk}):wpAny L! A yQ_ Q E s:=by
 obtain⟨o,ho,hc,hd⟩:=D;unfold Builtin.Dict.takeOut;refine CC pd!;rw[hj];refine AA yP!;rw[ER,he];have am:j<af!:=(BA.mp he).1;refine AA (JN (s:=el_) ho hd (AC (h _ tk (jH ho hc hd ?_).2 eg_)) (hz:=kC!) (hf:=?_))
 .rw[Array.eraseIdxIfInBounds,dif_pos yR!];simp
 .rw[Array.eraseIdxIfInBounds];split
  .rw[Array.size_eraseIdx];omega
  .omega
end
nonrec def Wg:List D->Option (List L2.Key)
 |[]=>some []
 |.int i::r=>(Wg r).map (Sum.inl i::·)
 |.str x::r=>(Wg r).map (Sum.inr x::·)
 |_::_=>none
nonrec def Ha:D->Option MK
 |.non=>some none
 |.int i=>some (some (.inl (.inl i)))
 |.str x=>some (some (.inl (.inr x)))
 |.tup xs=>(Wg xs).map λks=>some (.inr ks)
 |_=>none
def rR:∀{xs ys:b_} {ks:o6_},Wg xs=some ks->Wg ys=some ks->xs=ys
 |[],ys,ks,h,h'=>by
  cases h;cases ys with
  |nil=>rfl
  |cons y r=>cases y<;>simp[Wg]at h'
 |x::xs,[],ks,h,h'=>by
  cases h';cases x<;>simp[Wg]at h
 |x::xs,y::ys,ks,h,h'=>by
  cases x<;>simp only[Wg]at h<;>first|(cases h;done)|skip
  all_goals (obtain⟨l,e1,rfl⟩:=AO.mp h)
  all_goals (cases y<;>simp only[Wg]at h'<;>first|(cases h';done)|skip)
  all_goals (obtain⟨l',e2,e3⟩:=AO.mp h')
  all_goals (injection e3 with e4 e5)
  all_goals first|(injection e4;done)|skip
  all_goals (injection e4 with e4;subst e4 e5;rw[rR e1 e2])
def a8b(h:fy!)(h':ck_):x=y:=by
 cases x<;>simp only[Ha]at h<;>first|(cases h;done)|skip
 all_goals (cases y<;>simp only[Ha]at h'<;>first|(cases h';done)|skip)
 all_goals first
  |rfl
  |(cases h;cases h';rfl)
  |(cases h;cases h')
  |(cases h;obtain⟨l,e1,e2⟩:=AO.mp h';cases e2)
  |(cases h';obtain⟨l,e1,e2⟩:=AO.mp h;cases e2)
  |(obtain⟨l,e1,e2⟩:=AO.mp h;obtain⟨l',e3,e4⟩:=AO.mp h';cases e2;cases e4;rw[rR e1 e3])
nonrec def Fy(K:W.Frag)(G:Hp)(d:D)(u:Value):Prop:=∃v,Bl K G d v/\Dm v u
def Fy.mono{K:W.Frag}{G G':Hp}(e:kE!)(h:Fy K G d u):Fy K G' d u:=let⟨v,B,Y⟩:=h;⟨v,B.mono e,Y⟩
def yR{K:W.Frag}{G:Hp}:∀{ds:b_} {vs:k_} {ks:o6_},Bc K G ds vs->Wg ds=some ks->vs=ks.map kV
 |[],vs,ks,r,e=>by cases Fq r;cases e;rfl
 |d::ds,vs,ks,r,e=>by
  obtain⟨v,t,rfl,r1,r2⟩:=Dc r;cases d<;>simp only[Wg]at e<;>first|(cases e;done)|skip
  all_goals (obtain⟨l,e1,rfl⟩:=AO.mp e;rw[yR r2 e1])
  .cases Bp r1;rfl
  .cases Dj r1;rfl
def dR{X:Cx}{J:l_}{Z:St}{G H:Hp}{s:Shared}(I:d!)(sub:L_)(r:bT!)(e:bp_):Sy X.prog X.w s.heap k u:=by
 obtain⟨v,r,ru⟩:=r;cases d<;>simp only[Ha]at e<;>first|(cases e;done)|skip
 .cases e;cases Ip r;exact ru
 .cases e;cases Bp r;obtain⟨t,rfl⟩:=ru;exact rS _ _
 .cases e;cases Dj r;obtain⟨t,rfl⟩:=ru;exact eR _ _
 .obtain⟨ks,e1,rfl⟩:=AO.mp e;obtain⟨a,vs,rfl,q,rr⟩:=Cz r;cases ru;show"#9";rw[yR rr e1]at rv;exact⟨a,rfl,o,aQ_,n,B,Y,h3,by simpa using eS rv⟩
open Classical in
nonrec def kget:List aA!->D->Option D
 |[],_=>none
 |(k,v)::r,d=>if k=d then some v else kget r d
open Classical in
nonrec def Bi:List aA!->D->D->List aA!
 |[],d,v=>[(d,v)]
 |(k,x)::r,d,v=>if k=d then(k,v)::r else(k,x)::Bi r d v
open Classical in
nonrec def Mg:List aA!->D->List aA!
 |[],_=>[]
 |(k,x)::r,d=>if k=d then r else(k,x)::Mg r d
section
variable{P:Program}{w:World}{K:W.Frag}{G G':Hp}
variable (P w K G)in
nonrec def d3x(p:D×D)(e:DictEntry):Prop:=Fy K G p.1 e.key/\Fy K G p.2 e.val/\∃k,Ha p.1=some k/\e.hash=mkHash P w k
variable (P w K G)in
nonrec def Nz(kvs:g!)(es:aa!):Prop:=Paired (d3x P w K G) kvs es/\(fy_).Nodup
def Nz.mono{es:aa!}(e:kE!)(h:fz!):Nz P w K G' kvs es:=
 ⟨Paired.mapP h.1 λp q z=>⟨z.1.mono e,z.2.1.mono e,z.2.2⟩,h.2⟩
nonrec def Py(kvs:g!):List MK:=kvs.map λp=>(Ha p.1).getD none
def Ms{α β:Type}{F:cU_}:∀{l:K_} {m:dD_} {i:Nat} {a:α},Paired F l m->l[i]?=some a->∃b,m[i]?=some b/\F a b
 |_,_,_,_,.nil,e=>by simp at e
 |_,_,0,_,.cons r _,e=>by simp at e;subst e;exact lx!
 |_,_,i+1,a,.cons _ t,e=>by
  obtain⟨b,B,Y⟩:=Ms (i:=i) (a:=a) t cT_;exact⟨b,hS_,Y⟩
def Ra{α β:Type}{F:cU_}:∀{l l':K_} {m m':dD_},Paired F l m->Paired F l' m'->Paired F (l++l') (m++m')
 |_,_,_,_,.nil,h=>h
 |_,_,_,_,.cons r t,h=>.cons r (Ra t h)
def Yr{α β:Type}{F:cU_}{f:α->α}{g:β->β}:∀{l:K_} {m:dD_} (j:Nat),Paired F l m->(∀a b,l[j]?=some a->m[j]?=some b->F a b->F (f a) (g b))->Paired F (l.modify j f) (m.modify j g)
 |_,_,j,.nil,_=>by simpa using Paired.nil
 |_,_,0,.cons r t,h=>.cons (h _ _ rfl rfl r) t
 |_,_,j+1,.cons r t,h=>.cons r (Yr j t λa b e1 e2=>h a b (by simpa using e1) (by simpa using e2))
def bD{α β:Type}{F:cU_}:∀{l:K_} {m:dD_} (j:Nat),Paired F l m->Paired F (l.eraseIdx j) (m.eraseIdx j)
 |_,_,_,.nil=>.nil
 |_,_,0,.cons _ t=>t
 |_,_,j+1,.cons r t=>.cons r (bD j t)
def Nz.ents{X:Cx}{J:l_}{Z:St}{H:Hp}{s:Shared}{es:aa!}(I:d!)(sub:L_)(h:Nz X.prog X.w X.K G kvs es):cZ X.prog X.w s.heap es.toArray fz_:=by
 obtain⟨B,Y⟩:=h;refine⟨by simp[Py,FI B],λi e k he hk=>?_,?_⟩
 .rw[ER]at he;unfold Py at hk;rw[BS]at hk;obtain⟨p,hp,rfl⟩:=AO.mp hk;obtain⟨e',cj,q1,_,k',q2,q3⟩:=Ms B hp;rw[he]at cj;cases cj;rw[q2];exact⟨dR I sub q1 q2,q3⟩
 .have ke:∀{l:g!} {m:aa!},Paired (d3x X.prog X.w X.K G) l m->(em_).Nodup->(Py l).Nodup:=by
   intro l m hp
   induction hp with
   |nil=>intro _;exact FX
   |@cons p e l m q t ih=>
    intro nd;rw[AH,AX]at nd;show(_::Py l).Nodup;rw[AX];refine⟨cN!,ih nd.2⟩;obtain⟨p',br,e'⟩:=AZ.mp z;obtain⟨_,_,k,hk,_⟩:=q;obtain⟨i,hi⟩:=FL.mp br;obtain⟨_,_,_,_,k',cv,_⟩:=Ms t hi;dsimp only at e';rw[hk,cv]at e';have:k'=k:=e';subst this;exact nd.1 (AZ.mpr ⟨p',br,a8b cv hk⟩)
  exact ke B Y
def Nz.look{kvs:g!}{es:aa!}(h:fz!)(hd:bp_):
  (Yb fz_ k=none/\kget kvs d=none/\(∀v,Bi kvs d v=kvs++[(d,v)])/\d∉kvs.map b!)\/∃j x e,Yb fz_ k=some j/\kvs[j]?=some bD_/\es[j]?=some e/\kget kvs d=some x/\Fy K G x e.val/\(∀v,Bi kvs d v=kvs.modify j λp=>(p.1,v))/\Mg kvs d=kvs.eraseIdx j:=by
 obtain⟨B,Y⟩:=h
 induction B with
 |nil=>exact .inl ⟨rfl,rfl,eS!,J!⟩
 |@cons p e l m q t ih=>
  obtain⟨y,z⟩:=p;rw[AH,AX]at Y;obtain⟨_,q2,k',q3,_⟩:=q;have q3:Ha y=some k':=q3;have nu:Py ((y,z)::l)=k'::Py l:=by unfold Py;rw[AH,q3];rfl
  by_cases hy:y=d
  .subst hy;rw[hd]at q3;cases q3;refine .inr ⟨0,z,e,?_,rfl,rfl,by simp[kget],q2,λv=>by simp[Bi,List.modify],by simp[Mg]⟩;rw[nu];unfold Yb;rw[List.findIdx?_cons];simp
  .have b7:k'≠k:=λe=>hy (a8b q3 (e▸hd));have cv:Yb (Py ((y,z)::l)) k=(Yb (Py l) k).map (·+1):=by
    rw[nu];unfold Yb;rw[List.findIdx?_cons];simp[b7]
   rcases ih Y.2 with⟨i1,i2,i3,i4⟩|⟨j,x,e',i1,i2,i3,i4,i5,i6,i7⟩
   .refine .inl ⟨yS!,by simp[kget,hy,i2],λv=>by simp[Bi,hy,i3 v],?_⟩;rw[AH,AE,GO];exact⟨λe=>hy e.symm,i4⟩
   .exact .inr ⟨j+1,x,e',yS!,by simpa using i2,by simpa using i3,by simp[kget,hy,i4],i5,λv=>by simp[Bi,hy,i6 v],by simp[Mg,hy,i7]⟩
def Nz.put{es:aa!}(h:fz!)(hd:bp_)(ru:Fy K G d u)(rv:Fy K G x v):Nz P w K G pj_ (c0o es (Yb fz_ k) dv! u v):=by
 rcases h.look hd with⟨i1,i2,i3,i4⟩|⟨j,y,e',i1,i2,i3,i4,i5,i6,i7⟩
 .rw[i1,i3];refine⟨Ra h.1 (.cons ⟨ru,rv,k,hd,rfl⟩ .nil),?_⟩;rw[BJ,BP];refine⟨h.2,J!,λa ha b O e=>?_⟩;simp at O;subst O e;exact i4 ha
 .rw[i1,i6];refine⟨Yr j h.1 λa b _ _ q=>⟨q.1,rv,q.2.2⟩,?_⟩;have:∀(l:g!) (j:Nat),(l.modify j λp=>(p.1,x)).map b!=l.map b!:=by
   intro l
   induction l with
   |nil=>intro j;simp
   |cons p l ih=>
    intro j;cases j with
    |zero=>simp
    |succ j=>simp[ih j]
  rw[this];exact h.2
def Nz.del{kvs:g!}{es:aa!}{j:Nat}(h:fz!):Nz P w K G (kvs.eraseIdx j) yQ!:=by refine⟨bD j h.1,?_⟩;exact h.2.sublist ((List.eraseIdx_sublist kvs j).map _)
end
inductive dA where
 |lst (xs:b_)|dct (kvs:g!) (ep:Nat)|obj (C:Addr) (fs:aP_)
abbrev Mh:=Addr->Option dA
nonrec def Cb(M:Mh)(a:Addr)(c:dA):Mh:=λb=>if b=a then some c else M b
def mup_same{M:Mh}{a:Addr}{c:dA}:Cb M a c a=some c:=by unfold Cb;rw[j!]
def mup_ne{M:Mh}{a b:Addr}{c:dA}(h:b≠a):Cb M a c b=M b:=by unfold Cb;rw[AI h]
nonrec def dE(a:Addr)(es:aa!)(ep:Nat):HO:=.ext λh=>fJ h a es ep/\dD!=false/\af!<=big
nonrec def cY(K:W.Frag)(G:Hp):List ci_->List dC_->Prop:=Paired λp q=>p.1=q.1/\Bl K G p.2 q.2
section
variable(P:Program)(w:World)(K:W.Frag)
nonrec def My(G H:Hp)(a:Addr):dA->Prop
 |.lst xs=>∃vs,H a=some dj_/\Bc K G xs vs
 |.dct kvs ep=>∃es,H a=some kE_/\Nz P w K G kvs es
 |.obj C fs=>∃dx vs,H a=some yS_/\cY K G fs vs
structure MR(M:Mh)(G H:Hp):Prop where
 cell:∀a c,M a=some c->G a=none/\My P w K G H a c
end
structure XM(M:Mh)(G H:Hp)(M':Mh)(G' H':Hp):Prop where
 g:Cr G G'
 sub:Cr G' H'
 new:∀b,G' b≠none->G b≠none\/H b=none
 keep:∀b o,H b=some o->M b=none->H' b=some o
 dom:∀b,M' b≠none->M b≠none\/H b=none
 cells:∀b,M b≠none->M' b≠none
def XM.refl{M:Mh}{G H:Hp}(s:L_):XM M G H M G H:=⟨fd!,s,jH_,λ_ _ h _=>h,jH_,λ_ h=>h⟩
def XM.free{M M':Mh}{G H G' H':Hp}{b:Addr}(x:kF!)(hM:M b=none)(h:H' b=none):H b=none:=by
 cases e:H b with
 |none=>rfl
 |some o=>rw[x.keep b o e hM]at h;cases h
section
variable{P:Program}{w:World}{K:W.Frag}{M M1 M2:Mh}{G H G' H' G1 H1 G2 H2:Hp}
def cY.mono{fs:aP_}{vs:ev!}(e:kE!)(h:cY K G fs vs):cY K G' fs vs:=Paired.mapP h λ_ _ z=>⟨z.1,z.2.mono e⟩
def My.mono{a:Addr}{c:dA}(e:kE!)(h:yT!)(hH:H' a=H a):My P w K G' H' a c:=by
 cases c with
 |lst xs=>obtain⟨vs,B,Y⟩:=h;exact⟨vs,pk_,Y.mono e⟩
 |dct kvs ep=>obtain⟨es,B,Y⟩:=h;exact⟨es,pk_,Y.mono e⟩
 |obj C fs=>obtain⟨dx,vs,B,Y⟩:=h;exact⟨dx,vs,pk_,Y.mono e⟩
def My.has{a:Addr}{c:dA}(h:yT!):H a≠none:=by
 cases c with
 |lst xs=>obtain⟨vs,B,Y⟩:=h;rw[B];simp
 |dct kvs ep=>obtain⟨es,B,Y⟩:=h;rw[B];simp
 |obj C fs=>obtain⟨dx,vs,B,Y⟩:=h;rw[B];simp
def MR.has(m:bT_){c:Addr}(h:M c≠none):H c≠none:=by
 cases e:M c with
 |none=>exact absurd e h
 |some q=>exact(m.cell c q e).2.has
def XM.trans(a:XM M G H M1 G1 H1)(b:XM M1 G1 H1 M2 G2 H2)(m:yU!):XM M G H M2 G2 H2 where
 g:=a.g.trans b.g
 sub:=b.sub
 new:=λc h=>by
  rcases b.new c h with z|z
  .exact a.new c z
  .cases hM:M c with
   |none=>exact .inr (a.free hM z)
   |some q=>exact absurd z (m.has (a.cells c yU_))
 keep:=λc o h hM=>by
  refine b.keep c o (a.keep c o h hM) ?_;cases e:M1 c with
  |none=>rfl
  |some q=>
   rcases a.dom c kF_ with z|z
   .exact absurd hM z
   .rw[h]at z;cases z
 dom:=λc h=>by
  rcases b.dom c h with z|z
  .exact a.dom c z
  .cases hM:M c with
   |none=>exact .inr (a.free hM z)
   |some q=>exact .inl c_
 cells:=λc h=>b.cells c (a.cells c h)
def XM.ext(x:jJ_):XM M G H M G' H':=⟨x.g,x.sub,x.new,λb o h _=>x.h b o h,jH_,λ_ h=>h⟩
def MR.ext(m:bT_)(x:jJ_):MR P w K M G' H':=⟨λa c e=>by
 obtain⟨B,Y⟩:=m.cell a c e;have hn:H a≠none:=Y.has;refine yV!
 .cases q:G' a with
  |none=>rfl
  |some o=>
   rcases x.new a b9_ with z|z
   .exact absurd B z
   .exact absurd z hn
 .cases q:H a with
  |none=>exact absurd q hn
  |some o=>exact x.h a o q⟩
end
structure xF(P:Program)(w:World)(K:W.Frag)(own:j_)(G H:Hp)(Z:St)(ρ:Ag)(M:Mh):Prop where
 or:OR K own G H Z ρ
 mr:MR P w K M G H
 dj:∀i∈own,∀p,Z[i]?=some cd_->M p=none
section
variable{P:Program}{w:World}{K:W.Frag}{own:List Nat}{M M' M1 M2:Mh}{G H G' H' G1 H1 G2 H2:Hp}{Z:St}{ρ:Ag}
def OR.growM(h:ce!)(x:kF!)(dj:∀i∈own,∀p,Z[i]?=some cd_->M p=none):OR K own G' H' Z ρ where
 sub:=x.sub
 len:=h.len
 at_:=λi d q n=>let⟨v,B,Y⟩:=h.at_ i d q n;vZ!
 own_:=λi hi=>by
  obtain⟨p,ds,vs,B,Y,h3,h4,h5⟩:=h.own_ i hi;refine⟨p,ds,vs,B,Y,x.keep _ _ h3 (dj i hi p Y),?_,h5.mono x.g⟩;cases q:G' p with
  |none=>rfl
  |some o=>
   rcases x.new p b9_ with z|z
   .exact absurd h4 z
   .rw[h3]at z;cases z
 dis:=h.dis
def xF.grow(s:hv_)(x:kF!)(m:yV_):xF P w K own G' H' Z ρ M':=
 ⟨s.or.growM x s.dj,m,λi hi p e=>by
  cases q:M' p with
  |none=>rfl
  |some c=>
   obtain⟨p',ds,vs,B,Y,h3,h4,h5⟩:=s.or.own_ i hi;rw[e]at Y;cases Y;rcases x.dom p b9_ with z|z
   .exact absurd (s.dj i hi p e) z
   .rw[h3]at z;cases z⟩
end
abbrev WE:=Ag->Mh->yW!->Prop
abbrev WA:=Ag->Mh->yW_->Prop
abbrev WT:=Ag->Mh->(Bool->Mh->Prop)->Prop
section
variable(P:Program)(w:World)(K:W.Frag)(own:List Nat)
inductive tmE(f:WE)(Z:St)(H:Hp)(Q:VK):Prop
 |mk (G:Hp) (ρ:Ag) (M:Mh) (R:v_) (st:hv_) (e:hw!) (k:∀d M' v G' H',R d M'->XM M G H M' G' H'->MR P w K M' G' H'->Bl K G' d v->Q v H'):tmE f Z H Q
inductive tmA(f:WA)(Z:St)(H:Hp)(Q:cX_):Prop
 |mk (G:Hp) (ρ:Ag) (M:Mh) (R:pl!) (st:hv_) (e:hw!) (k:∀d M' v G' H',R d M'->XM M G H M' G' H'->MR P w K M' G' H'->Bc K G' d v->Q v H'):tmA f Z H Q
inductive tmT(f:WT)(Z:St)(H:Hp)(Q:dH!):Prop
 |mk (G:Hp) (ρ:Ag) (M:Mh) (R:fA!) (st:hv_) (e:hw!) (k:∀d M' G' H',R d M'->XM M G H M' G' H'->MR P w K M' G' H'->Q d H'):tmT f Z H Q
end
structure ME(X:Cx)(own:j_)(e:Expr)(f:WE):Prop where
 ok:PE X e (tmE X.prog X.w X.K own f)
structure MA(X:Cx)(own:j_)(es:bu_)(f:WA):Prop where
 ok:PA X es (tmA X.prog X.w X.K own f)
structure MT(X:Cx)(own:j_)(e:Expr)(f:WT):Prop where
 ok:PT X e yX_
structure MW(X:Cx)(own:j_)(e:Expr)(f:WT):Prop where
 ok:PW X e yX_
nonrec def wl(f:d_):WE:=λρ M R=>match f ρ with|some d=>R d M|none=>False
nonrec def Gc(f:ag_):WT:=λρ M R=>match f ρ with|some d=>R d M|none=>False
section
variable{X:Cx}{own:List Nat}{e a b c:Expr}{es rest:List Expr}{pos:Pos}{f fa fb fc:WE}{fs:WA}{ft fu:WT}{g:Ag->Option D}{gs:Ag->Option (List D)}{gt:Ag->Option Bool}
def Ij{t:TE}(h:ic_)(hw:∀Z G H Q ρ M R,xF X.prog X.w X.K own G H Z ρ M->f ρ M R->(∀d M' v G' H',R d M'->XM M G H M' G' H'->MR X.prog X.w X.K M' G' H'->Bl X.K G' d v->Q v H')->t Z H Q):ME X own e f:=
 yY_
def c4u{t:TA}(h:gu_)(hw:∀Z G H Q ρ M R,xF X.prog X.w X.K own G H Z ρ M->fs ρ M R->(∀d M' v G' H',R d M'->XM M G H M' G' H'->MR X.prog X.w X.K M' G' H'->Bc X.K G' d v->Q v H')->t Z H Q):MA X own es fs:=
 ⟨λp J s Z H Q I ⟨G,ρ,M,R,st,e,k⟩=>h p J s Z H Q I pl_⟩
def a7z{t:TT}(h:PT X e t)(hw:yZ!):MT X own e ft:=
 yY_
def c4p{t:TT}(h:PW X e t)(hw:yZ!):MW X own e ft:=
 ⟨λwh J s Z H Q I ⟨G,ρ,M,R,st,e,k⟩=>h wh J s Z H Q I pl_⟩
def b9c{ρ:Ag}{M:Mh}{R:v_}(h:wl g ρ M R):∃d,g ρ=some d/\R d M:=by
 unfold wl at h;split at h
 .exact yZ_
 .exact h.elim
def b2j{ρ:Ag}{M:Mh}{R:fA!}(h:Gc gt ρ M R):∃d,gt ρ=some d/\R d M:=by
 unfold Gc at h;split at h
 .exact yZ_
 .exact h.elim
def Af(h:DE X own e g):ME X own e (wl g):=Ij h.ok λZ G H Q ρ M R st e' k=>by
 obtain⟨d,e1,e2⟩:=b9c e';exact⟨G,ρ,d,st.or,e1,λv G' H' x r=>k d M v G' H' e2 (.ext x) pm! r⟩
def Kl(h:DT X own e gt):MT X own e (Gc gt):=a7z h.ok λZ G H Q ρ M R st e' k=>by
 obtain⟨d,e1,e2⟩:=b2j e';exact⟨G,ρ,d,st.or,e1,λG' H' x=>k d M G' H' e2 (.ext x) pm!⟩
nonrec def Al:WA:=λ_ M R=>R [] M
nonrec def Ac(f:WE)(fs:WA):WA:=λρ M R=>f ρ M λd M1=>fs ρ M1 λds M2=>R d4_ M2
def Bd:MA X own [] Al:=c4u Ku λZ G H Q ρ M R st e k=>k [] M [] G H e pm_ st.mr Bc.nil
def Ak(h:bU!)(hs:hw_)(bz:al_:=by rfl):MA X own aK_ (Ac f fs):=
 c4u wk_ λZ G H Q ρ M R st e' k=>⟨G,ρ,M,_,st,e',λd M1 v G1 H1 r1 x1 m1 q1=>⟨G1,ρ,M1,_,st.grow x1 m1,r1,λds M2 vs G2 H2 r2 x2 m2 q2=>
  k _ M2 _ G2 H2 r2 cl! m2 (Bc.cons bU_ q2)⟩⟩
nonrec def OpM(P:Program)(w:World)(K:W.Frag)(r:R2)(g:bV!):Prop:=∀{x y:V} {dx dy d:D} {M:Mh} {G H:Hp} {Q:VK},Cr G H->MR P w K M G H->Bl K G dx x->Bl K G dy y->g M dx dy=some d->jO!->r x y H Q
def Pb.m{P:Program}{w:World}{K:W.Frag}{r:R2}{g:aX!}(h:Pb K r g):OpM P w K r pn!:=λs _ rx ry e k=>h s rx ry e k
nonrec def w2(g:bV!)(fa fb:WE):WE:=λρ M R=>fa ρ M λx M1=>fb ρ M1 λy M2=>match g M2 x y with|some d=>R d M2|none=>False
def b9k{r:R2}{gm:bV!}(hg:hx!){Z:St}{G H:Hp}{Q:VK}{ρ:Ag}{M:Mh}{R:v_}(st:y0!)(e:w2 gm fa fb ρ M R)
  (k:∀d M' v G' H',R d M'->XM M G H M' G' H'->MR X.prog X.w X.K M' G' H'->Bl X.K G' d v->Q v H'):tOp r (tmE X.prog X.w X.K own fa) (tmE X.prog X.w X.K own fb) Z H Q:=
 ⟨G,ρ,M,_,st,e,λx M1 u G1 H1 r1 x1 m1 q1=>⟨G1,ρ,M1,_,st.grow x1 m1,r1,λy M2 v G2 H2 r2 x2 m2 q2=>by
  have r2:(match gm M2 x y with|some d=>R d M2|none=>False):=r2;split at r2
  .rename_i d hd;exact hg x2.sub m2 bU_ q2 hd λz G3 H3 x3 q3=>k d M2 z G3 H3 r2 ((cl!).trans (.ext x3) m2) (m2.ext x3) q3
  .exact r2.elim⟩⟩
def fY{op:Operator}{r:R2}{gm:bV!}(ho:mq_)(hg:hx!)(ha:aa_)(O:cl_):ME X own mr! kG!:=
 Ij sp! λZ G H Q ρ M R st e k=>b9k hg st e k
def Td{op:CmpOp}{r:R2}{gm:bV!}(ho:b3_)(hg:hx!)(ha:aa_)(O:cl_)(hm:dI_):ME X own dJ! kG!:=
 Ij v8_ λZ G H Q ρ M R st e k=>b9k hg st e k
def Do{r:R2}{gm:bV!}(hr:je!)(hg:hx!)(ha:aa_)(O:cl_)(hs:jK b):ME X own nf_ kG!:=
 Ij v9_ λZ G H Q ρ M R st e k=>b9k hg st e k
nonrec def wT(f:WE):WT:=λρ M R=>f ρ M λd M1=>match d with|.bl b=>R b M1|_=>False
def Jc{op:CmpOp}{r:R2}{gm:bV!}(ho:b3_)(hg:hx!)(ha:aa_)(O:cl_)(hm:dI_):MT X own dJ! (wT kG!):=
 a7z wa! λZ G H Q ρ M R st e k=>b9k (own:=own) (Q:=v9!) hg st e λd M' v G' H' r' x' m' q'=>by
  cases d<;>first|exact r'.elim|skip
  cases Fo q';exact y0_
def Lu(h:bU!)(he:id!:=by intro _;rfl):MT X own e (wT f):=
 a7z (b4g h.ok he) λZ G H Q ρ M R st e k=>⟨G,ρ,M,_,st,e,λd M' v G' H' r' x' m' q'=>by
  cases d<;>first|exact r'.elim|skip
  cases Fo q';exact y0_⟩
nonrec def Me(ft fu:WT):WT:=λρ M R=>ft ρ M λb M1=>if b then fu ρ M1 R else R false M1
nonrec def wOr(ft fu:WT):WT:=λρ M R=>ft ρ M λb M1=>if b then R true M1 else fu ρ M1 R
nonrec def Uy(ft:WT):WT:=λρ M R=>ft ρ M λb M1=>R (!b) M1
def Sx(h:hy!):MW X own lX_ ft:=wb_
def c7g(h:hy!):MW X own lY! ft:=wc!
def Zr(ha:hy!)(O:MW X own eB_ fu):MW X own eC! (Me ft fu):=
 c4p wc_ λZ G H Q ρ M R st e k=>⟨G,ρ,M,_,st,e,λx M1 G1 H1 r1 x1 m1=>by
  cases x with
  |true=>exact Wi y1_
  |false=>exact Wj y2!⟩
def d2m(ha:hy!)(O:MW X own eC_ fu):MW X own eD! (wOr ft fu):=
 c4p we_ λZ G H Q ρ M R st e k=>⟨G,ρ,M,_,st,e,λx M1 G1 H1 r1 x1 m1=>by
  cases x with
  |false=>exact Wj y1_
  |true=>exact Wi y2!⟩
def zZ(h:MW X own e ft):MT X own e ft:=⟨h.ok.pt⟩
def eK(h:hy!):MT X own eD_ (Uy ft):=
 a7z (b4i h.ok) λZ G H Q ρ M R st e k=>⟨G,ρ,M,_,st,e,λx M1 G1 H1 r1 x1 m1=>k _ M1 G1 H1 r1 x1 m1⟩
nonrec def Yf(fa fb:WE):WE:=λρ M R=>wT fa ρ M λb M1=>if b then fb ρ M1 R else R au_ M1
nonrec def a9n(fa fb:WE):WE:=λρ M R=>wT fa ρ M λb M1=>if b then R E! M1 else fb ρ M1 R
nonrec def b2l(fa:WE):WE:=λρ M R=>wT fa ρ M λb M1=>R (.bl (!b)) M1
def mH{op:BoolOp}(h:aa_):ME X own l0_ fa:=wf_
def uR(ha:aa_)(O:ME X own eB_ fb):ME X own eC! (Yf fa fb):=
 Ij wg! λZ G H Q ρ M R st e k=>⟨G,ρ,M,_,st,e,λd M1 v G1 H1 r1 x1 m1 q1=>by
  cases d<;>first|exact r1.elim|skip
  rename_i x;cases Fo q1;refine jQ_;cases x with
  |true=>exact Wi kH_
  |false=>exact Wj y3!⟩
def c4s(ha:aa_)(O:ME X own eC_ fb):ME X own eD! (a9n fa fb):=
 Ij wi! λZ G H Q ρ M R st e k=>⟨G,ρ,M,_,st,e,λd M1 v G1 H1 r1 x1 m1 q1=>by
  cases d<;>first|exact r1.elim|skip
  rename_i x;cases Fo q1;refine jQ_;cases x with
  |false=>exact Wj kH_
  |true=>exact Wi y3!⟩
def c7p(ha:aa_):ME X own eD_ (b2l fa):=
 Ij (b4w ha.ok) λZ G H Q ρ M R st e k=>⟨G,ρ,M,_,st,e,λd M1 v G1 H1 r1 x1 m1 q1=>by
  cases d<;>first|exact r1.elim|skip
  cases Fo q1;exact⟨_,rfl,k _ M1 _ G1 H1 r1 x1 m1 Bl.bl⟩⟩
nonrec def wIf(ft:WT)(fa fb:WE):WE:=λρ M R=>ft ρ M λb M1=>if b then fa ρ M1 R else fb ρ M1 R
def c4t(hc:pq_)(ha:aa_)(O:cl_):ME X own l2! (wIf ft fa fb):=
 Ij wk! λZ G H Q ρ M R st e k=>⟨G,ρ,M,_,st,e,λx M1 G1 H1 r1 x1 m1=>by
  cases x with
  |true=>exact Wi kH_
  |false=>exact Wj kH_⟩
nonrec def b9h(fs:WA):WE:=λρ M R=>fs ρ M λds M1=>f_<=1000/\R di! M1
nonrec def d5g(fs:WA):WE:=λρ M R=>fs ρ M λds M1=>f_<=1000/\R cd! M1
def c7o{n:Nat}(h:hw_):ME X own (.Tuple es n pos) (b9h fs):=
 Ij (b4t h.ok) λZ G H Q ρ M R st e k=>⟨G,ρ,M,_,st,e,λds M1 vs G1 H1 r1 x1 m1 q1=>⟨by rw[<-Aq q1];exact Lw r1.1,λp hp=>
  k _ M1 _ _ _ r1.2 y4_ (m1.ext pr!) (Jm y5! q1)⟩⟩
def d6r(h:hw_):ME X own iV! (d5g fs):=
 Ij jS_ λZ G H Q ρ M R st e k=>⟨G,ρ,M,_,st,e,λds M1 vs G1 H1 r1 x1 m1 q1=>⟨by rw[<-Aq q1];exact Lw r1.1,λp hp=>
  k _ M1 _ _ _ r1.2 y4_ (m1.ext pr!) (Ew y5! q1)⟩⟩
end
section
variable{P:Program}{w:World}{K:W.Frag}{M:Mh}{G H:Hp}{p a:Addr}{o:HO}{c c0:dA}
def MR.nocell(m:bT_)(h:cG!):M p=none:=by
 cases e:M p with
 |none=>rfl
 |some q=>exact absurd h (m.has kF_)
def XM.laid(s:L_)(hp:cG!):XM M G H pr_ G fc_:=by
 show"#6";refine⟨fd!,λb u e=>by rw[Bn (ne (s b u e))];exact s b u e,dp!,λb u e _=>by rw[Bn (ne e)];exact e,bm!,bm!⟩
 .by_cases O:b=p
  .subst O;exact .inr hp
  .rw[bq!]at h;exact .inl h
 .by_cases O:b=p
  .subst O;rw[mup_same];simp
  .rw[bq!];exact h
def MR.laid(m:bT_)(hp:cG!)(s:L_)(h:My P w K G fc_ p c):MR P w K pr_ G fc_:=⟨λb q e=>by
 by_cases O:b=p
 .show"#/";exact⟨s.free hp,h⟩
 .rw[bq!]at e;obtain⟨B,Y⟩:=m.cell b q e;exact y6_⟩
def XM.write(m:bT_)(s:L_)(ha:M a=some c0):XM M G H (Cb M a c) G cV!:=by
 have hG:=(m.cell a c0 ha).1;refine⟨fd!,λb u e=>by rw[Bn (Ea e hG)];exact s b u e,dp!,λb u e O=>?_,bm!,bm!⟩
 .have:b≠a:=λz=>by subst z;rw[ha]at O;cases O
  rw[Bn this];exact e
 .by_cases O:b=a
  .subst O;exact .inl (by rw[ha];simp)
  .rw[bq!]at h;exact .inl h
 .by_cases O:b=a
  .subst O;rw[mup_same];simp
  .rw[bq!];exact h
def MR.write(m:bT_)(ha:M a=some c0)(h:My P w K G cV! a c):MR P w K (Cb M a c) G cV!:=⟨λb q e=>by
 by_cases O:b=a
 .show"#/";exact⟨(m.cell _ c0 ha).1,h⟩
 .rw[bq!]at e;obtain⟨B,Y⟩:=m.cell b q e;exact y6_⟩
end
open Classical in
nonrec def Lk(kvs:g!)(d:D)(ep:Nat):Nat:=if(dw_).isSome then ep else ep+1
nonrec def OkU(K:W.Frag)(G:Hp):Option D->Option Value->Prop
 |some d,some u=>Fy K G d u
 |none,none=>True
 |_,_=>False
section
variable{X:Cx}{J:List (Addr×Obj)}{Z:St}{G H:Hp}{s:Shared}{M:Mh}{a:Addr}{kvs:List (D×D)}{ep:Nat}{A:Around}{E:Value->Shared->Prop}{d x:D}{k:MK}{u v:Value}
def Jb(I:d!)(m:bV_)(sub:L_)(e:cm!):∃es,H a=some kE_/\Nz X.prog X.w X.K G kvs es/\fJ s.heap a es ep/\dD!=false/\af!<=big/\cZ X.prog X.w s.heap es.toArray fz_:=by obtain⟨es,B,Y⟩:=(m.cell a _ e).2;obtain⟨⟨h3,h4,h5⟩,_⟩:=(show Jz X.prog X.w H s.heap a kE_ from I.hok a _ B);exact⟨es,B,Y,h3,h4,h5,Y.ents I sub⟩
def wO{t':Nat}{es au:aa!}{bd:Nat}(I:d!)(e:H a=some kE_)(D':fJ h' a au bd)(hs:va!)(hn:dD!=false)(hl:au.length<=big):Inv X J Z (upd H a (dE a au bd)) {s with heap:=h',toks:=t'}:=by refine c3c I te! hs (let⟨o,h,_⟩:=D';ps_) ⟨⟨D',hn,hl⟩,let⟨o,h,_⟩:=D';ps_,za_⟩;obtain⟨⟨o,z1,z2,z3⟩,z4⟩:=z;exact pt!
def wQ{Q:fp!}(hu:ao!)(I:d!)(m:bV_)(sub:L_)(e:cm!)(r:bT!)(hk:bp_)
  (h:∀o s',Inv X J Z H s'->OkU X.K G dw_ o->Q o s'):wpAny e_ A (dictGet a u) Q E s:=by
 obtain⟨es,B,Y,h3,h4,h5,h6⟩:=Jb I m sub e;refine d3g hu h3 h6 hA! λtk=>h _ _ iR_ ?_;rcases Y.look hk with⟨i1,i2,i3,i4⟩|⟨j,y,e',i1,i2,i3,i4,i5,i6,i7⟩
 .rw[i1,i2];exact iS!
 .rw[i1,i4];show OkU X.K G (some y) (es[j]?.map (·.val));rw[i3];exact i5
def kput_len:∀(l:g!) (d x:D),(Bi l d x).length<=P!+1
 |[],_,_=>by simp[Bi]
 |(y,z)::l,d,x=>by
  unfold Bi;split
  .simp
  .have:=kput_len l d x;simp only[AJ];omega
def b8a{Q:cW_}(hu:ao!)(I:d!)(m:bV_)(sub:L_)(e:cm!)(r:bT!)(hk:bp_)(rv:kJ!)(hl:dx!)
  (h:zd!):wpAny e_ A yN_ Q E s:=by
 obtain⟨es,B,Y,h3,h4,h5,h6⟩:=Jb I m sub e;have ak:=FI Y.1;refine d3f hu h3 h6 hA! fA_ λh' tk D' hs=>?_;have nv:=Y.put (x:=x) hk r rv;have v0:c0n (Yb fz_ k) ep=Lk kvs d ep:=by
  unfold Lk;rcases Y.look hk with⟨i1,i2,i3,i4⟩|⟨j,y,e',i1,i2,i3,i4,i5,i6,i7⟩
  .rw[i1,i2];simp[c0n]
  .rw[i1,i4];simp[c0n]
 rw[v0]at D';have lu:=FI nv.1;have:=kput_len kvs d x;exact h _ _ (wO I B D' hs h4 a!) ⟨_,Db,nv⟩
def a5q{Q:p_}(hu:en_)(I:d!)(m:bV_)(sub:L_)(e:cm!)(r:bT!)(hk:bp_)(L:zd_)
  (h:∀o s',Inv X J Z H s'->Fy X.K G x o->Q o s'):wpAny e_ A (getItem ab_ u) Q E s:=by
 obtain⟨es,B,Y,h3,h4,h5,h6⟩:=Jb I m sub e;have hT:=fB!;unfold getItem;refine CC (AA (wpAny_sequenceKey hT c! (AA (CP (name:=t8!) hT PySem.slot_dict_getitem (BX PySem.slot_dict_getitem hT PySem.entry_dict_getitem ?_ (PySem.args_dict_getitem _ _))))));show wpAny e_ A.in1 kK_ _ _ s;refine AA kL!;rw[L]at ho;cases o with
 |none=>exact ho.elim
 |some o=>exact AC ⟨o,rfl,AC (h o s' I' ho)⟩
def gN{Q:ej_}(hu:en_)(I:d!)(m:bV_)(sub:L_)(e:cm!)(r:bT!)(hk:bp_)
  (h:∀s',Inv X J Z H s'->Q (dw_).isSome s'):wpAny e_ A (contains ab_ u) Q E s:=by
 obtain⟨es,B,Y,h3,h4,h5,h6⟩:=Jb I m sub e;have hT:=fB!;unfold contains;refine CC (AA (HL hT HM.lookup ?_));rw[AI (by rw[beq_builtin_none];exact BC)];refine AA (wpAny_callSpecialUnlessNone?_slot (name:=Str.ofString "__contains__") hT HM (BX HM hT PySem.entry_dict_contains ?_ (PySem.args_dict_contains _ _)));show wpAny e_ A.in1 kK_ _ _ s;refine AA kL!;cases o with
 |none=>
  have hn:kget kvs d=none:=by
   cases q:kget kvs d with
   |none=>rfl
   |some y=>rw[q]at ho;exact ho.elim
  have h:=h s' I';rw[hn]at h;exact AA (wpAny_pendingKey_other h4 (AC zf!))
 |some o=>
  have hn:(dw_).isSome=true:=by
   cases q:kget kvs d with
   |none=>rw[q]at ho;exact ho.elim
   |some y=>rfl
  have h:=h s' I';rw[hn]at h;exact AC zf!
def a5p{Q:cW_}(hu:en_)(I:d!)(m:bV_)(sub:L_)(e:cm!)(r:bT!)(hk:bp_)(rv:kJ!)(hl:dx!)
  (h:zd!):wpAny e_ A (setItem ab_ u v) Q E s:=by
 obtain⟨es,B,Y,h3,h4,h5,h6⟩:=Jb I m sub e;have hT:=fB!;unfold setItem;refine CC (AA (wpAny_sequenceKey hT c! (AA (CP (name:=Str.ofString "__setitem__") hT PySem.slot_dict_setitem (BX PySem.slot_dict_setitem hT PySem.entry_dict_setitem ?_ (PySem.args_dict_setitem _ _ _))))));refine AA (GU hT ?_);show wpAny e_ A.in1 (dictSet a u v>>=_) _ _ s;exact AA (b8a (A:=A.in1) hu I m sub e r hk rv hl λau s' I' c'=>AC ⟨.none,rfl,AC (h au s' I' c')⟩)
def c3e{Q:p_}(hu:en_)(I:d!)(m:bV_)(sub:L_)(e:cm!)(r:bT!)(hk:bp_)
  (h:∀o s',Inv X J Z H s'->Fy X.K G ((dw_).getD .non) o->Q o s'):wpAny e_ A (call zf_ [dT!,u]) Q E s:=by
 obtain⟨es,B,Y,h3,h4,h5,h6⟩:=Jb I m sub e;refine BX GP h3.typeIs PySem.F.entry_dict_get ?_ (PySem.F.args_dict_get_2 _ _);show wpAny e_ A.in1 kK_ _ _ s;refine AA kL!;cases q:kget kvs d with
 |none=>
  rw[q]at ho;cases o with
  |none=>
   have h:=h .none s' I';rw[q]at h;exact AA (wpAny_missed_other h4 (AC ⟨.none,rfl,h ⟨V.non,Bl.non,rfl⟩⟩))
  |some o=>exact ho.elim
 |some y=>
  rw[q]at ho;cases o with
  |none=>exact ho.elim
  |some o=>
   have h:=h o s' I';rw[q]at h;exact AC zg!
def c3d{Q:p_}(hu:en_)(I:d!)(m:bV_)(sub:L_)(e:cm!)(r:bT!)(hk:bp_)(rv:kJ!)
  (h:∀o s',Inv X J Z H s'->Fy X.K G ((dw_).getD x) o->Q o s'):wpAny e_ A (call zf_ [dT!,u,v]) Q E s:=by
 obtain⟨es,B,Y,h3,h4,h5,h6⟩:=Jb I m sub e;refine BX GP h3.typeIs PySem.F.entry_dict_get ?_ (PySem.F.args_dict_get_3 _ _ _);show wpAny e_ A.in1 kK_ _ _ s;refine AA kL!;cases q:kget kvs d with
 |none=>
  rw[q]at ho;cases o with
  |none=>
   have h:=h v s' I';rw[q]at h;exact AA (wpAny_missed_other h4 (AC ⟨v,rfl,h rv⟩))
  |some o=>exact ho.elim
 |some y=>
  rw[q]at ho;cases o with
  |none=>exact ho.elim
  |some o=>
   have h:=h o s' I';rw[q]at h;exact AC zg!
def pU{Q:p_}(hu:en_)(I:d!)(m:bV_)(sub:L_)(e:cm!)(r:bT!)(hk:bp_)(rv:kJ!)(hl:dx!)
  (hs:∀y o s',kget kvs d=some y->Inv X J Z H s'->Fy X.K G y o->Q o s')
  (hn:kget kvs d=none->∀au s',Inv X J Z kM! s'->My X.prog X.w X.K G kM! a (.dct pj_ bc!)->Q v s'):wpAny e_ A (call (.builtin "dict.setdefault") [dT!,u,v]) Q E s:=by
 obtain⟨es,B,Y,h3,h4,h5,h6⟩:=Jb I m sub e;have ak:=FI Y.1;have hT:=fB!;refine BX JW hT PySem.F.entry_dict_setdefault ?_ (PySem.F.args_dict_setdefault_3 _ _ _);unfold Builtin.«dict.setdefault» zg_;refine AA py!;dsimp only;rw[AI (by rw[h4];exact BC)];rcases Y.look hk with⟨i1,i2,i3,i4⟩|⟨j,y,e',i1,i2,i3,i4,i5,i6,i7⟩
 .refine AA (cM (A:=A.in1) hu h3 h6 hA! fA_ (λj e tk q=>by rw[i1]at q;cases q) λh' tk _ D' bu=>AC ⟨_,rfl,hn i2 _ _ zh_ ⟨_,Db,?_⟩⟩)
  .rw[AT,CG];omega
  .have:=Y.put (x:=x) hk r rv;rw[i1]at this;exact this
 .exact AA (cM (A:=A.in1) hu h3 h6 hA! fA_ (λj' e tk q q2=>by
   rw[i1]at q;cases q;rw[i3]at q2;cases q2;exact AC ⟨_,rfl,hs y _ _ i4 iR_ i5⟩) λh' tk q=>by rw[i1]at q;cases q)
def c9b{Q:p_}(hu:en_)(I:d!)(m:bV_)(sub:L_)(e:cm!)(r:bT!)(hk:bp_)(L:zd_)
  (h:∀au o s',Inv X J Z kM! s'->My X.prog X.w X.K G kM! a (.dct (Mg kvs d) bc!)->Fy X.K G x o->Q o s'):wpAny e_ A (call (.builtin "dict.pop") [dT!,u]) Q E s:=by
 obtain⟨es,B,Y,h3,h4,h5,h6⟩:=Jb I m sub e;have hT:=fB!;rcases Y.look hk with⟨i1,i2,i3,i4⟩|⟨j,y,e',i1,i2,i3,i4,i5,i6,i7⟩
 .rw[i2]at L;cases L
 .rw[i4]at L;cases L;refine BX PySem.F.slot_dict_pop hT PySem.F.entry_dict_pop ?_ (PySem.F.args_dict_pop_2 _ _);unfold Builtin.«dict.pop» zg_;refine AA py!;dsimp only;have fin:wpAny e_ A.in1 yQ_ (λah s'=>∃e o,ah=some e/\e.val=o/\Q o s') E s:=by
   refine c8m (A:=A.in1) hu h3 h6 hA! fA_ i1 i3 λh' tk D' bu=>⟨e',_,rfl,rfl,h _ _ _ zh_ ⟨_,Db,?_⟩ i5⟩
   .exact BN (List.length_eraseIdx_le _ _) h5
   .rw[i7];exact Y.del
  obtain⟨o,ho,_,hd⟩:=id h3;have b7:es.toArray.isEmpty=false:=by
   cases es with
   |nil=>simp at i3
   |cons _ _=>rfl
  by_cases hp:(keyPart u).isSome=true
  .rw[AQ hp];refine AA ac_;rw[AI BC];refine AA zi!;subst q1 q2;exact AA zi_
  .rw[AI hp];refine AA (EL ho hd (AA ac_));rw[b7,AI BC];refine AA zi!;subst q1 q2;exact AA zi_
end
section
variable{X:Cx}{J:List (Addr×Obj)}{Z:St}{H:Hp}{s:Shared}
def yU{ds es:b_}{A:Around}(I:d!)(qa:j8_)(qb:Lj X.K H b ws)(rd:hb!)(re:hb_)(hu:ao!)
  (h:kb!):SeqAt.RcNeAt A s ab_ dV_ (!Qi ds es):=by
 obtain⟨us,rv,p1,_⟩:=I.tuple qa;obtain⟨us',ao,p2,_⟩:=I.tuple qb;have B:=Aq rd;have Y:=Aq re;have h3:=dM_;have h4:=kb_;have z:=SeqAt.RcNeAt.tuples (A:=A) (e:=kc!) p1 p2 hu kc_;have e:w7_=Qi ds es:=by
  show"#8"
  .rw[hl,Nat.min_self,<-hl,kd!,hl];simp
  .rw[kd_];have:(f_==af!)=false:=by simpa using hl
   rw[this,IV]
 rw[e]at z;exact z
def a3s{ds es:b_}{A:Around}(I:d!)(qa:oB_)(qb:Jf X.K H b ws)(rd:hb!)(re:hb_)(hu:ao!)
  (h:kb!):SeqAt.RcNeAt A s ab_ dV_ (!Qi ds es):=by
 show"!@";have h4:=kb_;by_cases hl:f_=af!
 .have z:=SeqAt.RcNeAt.lists (A:=A) (e:=kc!) p1.isList p2.isList n7! hu kc_;rw[AN,<-h3,<-B,kd!]at z;exact z
 .rw[kd_];exact SeqAt.RcNeAt.lists_lengths p1.isList p2.isList w8! hu
def b3o(I:d!){A:Around}(n:ci!)(n':fl_)(hu:ao!)(r:ef_)(r':hc!)(ru:bu!)(ap:hc_)(hT:∀xs ys,d=.tup xs->d'=.tup ys->SeqAt.RcNeAt A s u u' kO!)(hL:∀xs ys,d=.lst xs->d'=.lst ys->SeqAt.RcNeAt A s u u' kO!):SeqAt.RcNeAt A s u u' kO!:=by
 show"!p"
 all_goals first|exact hT _ _ rfl rfl|exact hL _ _ rfl rfl|(unfold Ir;(try simp only[HK,EA]);with_reducible first|exact .none_none|exact .same _|exact .none_bool _|exact .none_int _ _|exact .none_str _ _|exact .none_tuple ‹_› hu|exact .none_list ‹_› hu|exact .bool_none _|exact .bool_bool _ _|exact .bool_int _ _ _|exact .bool_str _ _ _|exact .bool_tuple _ ‹_› hu|exact .bool_list _ ‹_› hu|exact .int_none _ _|exact .int_bool _ _ _|exact .int_int _ _ _ _|exact .int_str _ _ _ _|exact .int_tuple _ _ ‹_› hu|exact .int_list _ _ ‹_› hu|exact .str_none _ _|exact .str_bool _ _ _|exact .str_int _ _ _ _|exact .str_str _ _ _ _|exact .str_tuple _ _ ‹_› hu|exact .str_list _ _ ‹_› hu|exact .tuple_none ‹_› hu|exact .tuple_bool _ ‹_› hu|exact .tuple_int _ _ ‹_› hu|exact .tuple_str _ _ ‹_› hu|exact .tuple_list ‹_› ‹_› hu|exact .list_none ‹_› hu|exact .list_bool _ ‹_› hu|exact .list_int _ _ ‹_› hu|exact .list_str _ _ ‹_› hu|exact .list_tuple ‹_› ‹_› hu)
def b3p(I:d!)(d d':D){A:Around}(n:ci!)(n':fl_)(hu:xa!)(r:ef_)(r':hc!)(ru:bu!)(ap:hc_):SeqAt.RcNeAt A s u u' kO!:=
 b3o I n n' a! r r' ru ap (λxs ys e e'=>by
  subst e e';obtain⟨a,vs,rfl,q,rr⟩:=Cz r;obtain⟨b,ws,rfl,q',bx⟩:=Cz r';cases ru;cases ap;unfold Co at n n';unfold Oa at hu;unfold Ir;exact yU I q q' rr bx a! λus us' rv ao=>To I xs ys A.in1 vs ws us us' n n' fm! rr bx rv ao) (λxs ys e e'=>by
  subst e e';obtain⟨a,vs,rfl,q,rr⟩:=Cp r;obtain⟨b,ws,rfl,q',bx⟩:=Cp r';cases ru;cases ap;unfold Co at n n';unfold Oa at hu;unfold Ir;exact a3s I q q' rr bx a! λus us' rv ao=>To I xs ys A.in1 vs ws us us' n n' fm! rr bx rv ao)
nonrec def c6a(K:W.Frag):R2:=λx y H Q=>∃dx dy,Bl K H dx x/\Bl K H dy y/\Co dx=true/\Co dy=true/\Oa dx<=40/\Q (.bl (!Ir dx dy)) H
def Zn(hu:aJ!):Md X su_ (c6a X.K):=by intro J s Z H x y v u Q I rx ry h;obtain⟨dx,dy,r1,r2,n1,n2,hd,q⟩:=h;exact b3p I dx dy n1 n2 a! r1 r2 rx ry X.prog X.w X.xe _ ke_
nonrec def Hw:D->D->Option D:=λx y=>if Co x&&Co y&&decide (Oa x<=40)then some (.bl (!Ir x y))else none
def eH{K:W.Frag}:Pb K (c6a K) Hw:=by
 show"!0";unfold Hw at e;show"!5"
 .show"!O";exact xa_
 .cases e
open Classical in
nonrec def eqW(K:W.Frag)(H:Hp)(x:D)(u:Value):Bool:=decide (∃d,Fy K H d u/\Co d=true/\Ir d x=true)
open Classical in
def b7h(I:d!)(r:Fy X.K H d u)(n:ci!):eqW X.K H x u=Ir d x:=by
 unfold eqW;cases h:Ir d x with
 |true=>exact BK ⟨d,r,n,h⟩
 |false=>
  refine AW ?_;rintro⟨d',⟨v',r',ap⟩,n',h'⟩;obtain⟨v,r,ru⟩:=r;have:=ru.inj ap;subst this;rw[tU I d d' v n n' r r']at h;rw[h]at h';cases h'
def cU(I:d!):∀{ds:b_} {vs:k_} {us:h_},Bc X.K H ds vs->Ce vs us->Eg ds=true->us.any (eqW X.K H x)=ds.any λd=>Ir d x
 |[],vs,us,r,rv,_=>by cases Fq r;cases rv;rfl
 |d::ds,vs,us,r,rv,n=>by
  obtain⟨v,t,rfl,r1,r2⟩:=Dc r;unfold Eg at n;rw[BH]at n;cases rv with
  |cons px sh=>rw[ES,ES,b7h I ⟨v,r1,px⟩ n.1,cU I r2 sh n.2]
def bK(I:d!){A:Around}(rx:Bl X.K H x y)(ry:Dm y v)(nx:Co x=true):∀{ds:b_} {vs:k_} {us:h_},Bc X.K H ds vs->Ce vs us->Eg ds=true->A.units+Hx ds<cLine->∀u∈us,SeqAt.EqAt A s u v (eqW X.K H x u)
 |[],vs,us,r,rv,_,_=>λu hu=>by cases Fq r;cases rv;cases hu
 |d::ds,vs,us,r,rv,n,hd=>λu hu=>by
  obtain⟨z,t,rfl,r1,r2⟩:=Dc r;unfold Eg at n;rw[BH]at n;unfold Hx at hd;cases rv with
  |cons px sh=>
   rcases AE.mp hu with rfl|hu
   .rw[b7h I ⟨z,r1,px⟩ n.1];exact b7k I d x A z y _ _ n.1 nx a! r1 rx px ry
   .exact bK I rx ry nx r2 sh n.2 a! u hu
nonrec def c6c(K:W.Frag)(neg:Bool):R2:=λx y H Q=>∃p ys dx ds,y=.ref p/\oj_/\Bl K H dx x/\Bc K H ds ys/\Co dx=true/\Eg ds=true/\Hx ds<=40/\Q (.bl (if neg then !(ds.any λd=>Ir d dx)else ds.any λd=>Ir d dx)) H
def c6u(hu:aJ!):Md X jg_ (c6c X.K false):=by
 intro J s Z H x y v u Q I rx ry h;obtain⟨p,ys,dx,ds,rfl,hq,r1,r2,n1,n2,hd,q⟩:=h;cases ry;rcases hq with hq|hq
 .show"!T";refine SeqAt.in_listAt fC_ pl.isList kO_ e1_;rw[kP!,kP_];exact q
 .show"!~";refine SeqAt.in_tupleAt fC_ pl kO_ e1_;rw[kP!,kP_];exact q
def b0o(hu:aJ!):Md X pz_ (c6c X.K true):=by
 intro J s Z H x y v u Q I rx ry h;obtain⟨p,ys,dx,ds,rfl,hq,r1,r2,n1,n2,hd,q⟩:=h;cases ry;rcases hq with hq|hq
 .show"!T";refine SeqAt.notIn_listAt fC_ pl.isList kO_ e1_;rw[kP!,kP_];exact q
 .show"!~";refine SeqAt.notIn_tupleAt fC_ pl kO_ e1_;rw[kP!,kP_];exact q
nonrec def c6d(P:Program)(w:World)(K:W.Frag)(neg:Bool):R2:=λx y H Q=>∃(M:Mh) (G:Hp) (a:Addr) (kvs:g!) (ep:Nat) (d:D) (k:MK),y=.ref a/\Cr G H/\MR P w K M G H/\M a=some hz!/\Bl K G d x/\Ha d=some k/\Q (.bl (if neg then !(dw_).isSome else(dw_).isSome)) H
def c6v(hu:aJ!):Md X jg_ (c6d X.prog X.w X.K false):=by intro J s Z H x y v u Q I rx ry h;obtain⟨M,G,a,kvs,ep,d,k,rfl,sub,m,e,r,hk,q⟩:=h;cases ry;exact AA zk!
def b0p(hu:aJ!):Md X pz_ (c6d X.prog X.w X.K true):=by intro J s Z H x y v u Q I rx ry h;obtain⟨M,G,a,kvs,ep,d,k,rfl,sub,m,e,r,hk,q⟩:=h;cases ry;exact AA zk!
nonrec def c0c(P:Program)(w:World)(K:W.Frag)(neg:Bool):R2:=λx y H Q=>c6c K neg x y H Q\/c6d P w K neg x y H Q
def Oe(hu:aJ!):Md X jg_ (c0c X.prog X.w X.K false):=(c6u hu).or (c6v hu)
def Xf(hu:aJ!):Md X pz_ (c0c X.prog X.w X.K true):=(b0o hu).or (b0p hu)
nonrec def kO(M:Mh):D->Option aG_
 |.lst xs=>some xs
 |.tup xs=>some xs
 |.fn a=>match M a with|some (.lst xs)=>some xs|_=>none
 |_=>none
def tG{K:W.Frag}{M:Mh}{G H:Hp}(sub:L_)(m:bT_)(r:ce_)(e:kO M d=some xs):∃p ys,v=.ref p/\oj_/\Bc K G xs ys:=by
 cases d<;>first|(cases e;done)|skip
 .cases e;show"!]";exact⟨p,vs,rfl,.inr g4!,rr⟩
 .cases e;obtain⟨p,vs,rfl,q,rr⟩:=Cp r;exact⟨p,vs,rfl,.inl ok!,rr⟩
 .rename_i a;cases Kt r;simp only[kO]at e;show"!5"
  .rename_i ys hy;cases e;obtain⟨_,vs,B,Y⟩:=m.cell a _ hy;exact⟨a,vs,rfl,.inl (Jf.of B),Y⟩
  .cases e
nonrec def Pz(neg:Bool)(M:Mh)(x y:D):Option D:=match y with
 |.fn a=>match M a with
  |some (.dct kvs _)=>(Ha x).bind λ_=>some (.bl (if neg then !(kget kvs x).isSome else(kget kvs x).isSome))
  |_=>inS M x y
 |_=>inS M x y
where inS (M:Mh) (x y:D):Option D:=(kO M y).bind λds=>if Co x&&Eg ds&&decide (Hx ds<=40)then some xe_ else none
def Kb{K:W.Frag}{neg:Bool}:OpM P w K (c0c P w K neg) (Pz neg):=by
 intro x y dx dy d M G H Q sub m rx ry e k;have seq:Pz.inS neg M dx dy=some d->c0c P w K neg x y H Q:=λe=>by
  obtain⟨ds,e1,e2⟩:=AB.mp e;split at e2
  .rename_i h;rw[BH,BH,BM]at h;cases e2;obtain⟨p,ys,rfl,q,rr⟩:=tG sub m ry e1;exact .inl ⟨p,ys,dx,ds,rfl,q,rx.mono sub,rr.mono sub,h.1.1,h.1.2,h.2,ed!⟩
  .cases e2
 unfold Pz at e;show"!5"
 .rename_i a;show"!5"
  .show"#@";cases e2;cases Kt ry;exact .inr ⟨M,G,a,kvs,ep,dx,kk,rfl,sub,m,hM,rx,e1,ed!⟩
  .exact seq e
 .exact seq e
nonrec def d1p(P:Program)(w:World)(K:W.Frag):R2:=λx y H Q=>∃(M:Mh) (G:Hp) (a:Addr) (kvs:g!) (ep:Nat) (d z:D) (k:MK),x=.ref a/\Cr G H/\MR P w K M G H/\M a=some hz!/\Bl K G d y/\Ha d=some k/\kget kvs d=some z/\∀v,Bl K G z v->Q v H
def c7z(hu:aJ!):IxR X (d1p X.prog X.w X.K):=by
 intro value f8 J s Z H x y v u Q I rx ry h hs;obtain⟨M,G,a,kvs,ep,d,z,k,rfl,sub,m,e,r,hk,hz,q⟩:=h;cases rx;obtain⟨es,B,Y,h3,h4,h5,h6⟩:=Jb I m sub e;unfold subscriptTail;refine AA ?_;rw[getitemInPython_of_ne h3.typeIs.not_modules];refine AA (HL h3.typeIs PySem.F.slot_dict_getitem.lookup ?_);have fin:wpAny e_ X.A (subscripted f8 false ab_ u) (λr dt=>wpAny e_ X.A (letTemporaryGo value ab_ r>>=λ_=>pure r) aJ_ X.xe dt) X.xe s:=by
  rw[hs];exact wpAny_operating (a5q (A:=X.A) a! I m sub e ⟨_,r,ry⟩ hk hz λo s' I' ⟨v',r',ap⟩=>AA (wpAny_letTemporaryGo (AC ⟨v',H,I',ap,q v' r'⟩)))
 first
  |exact AC jn!
  |exact AA (AC jn!)
  |exact AA fin
nonrec def d1q(P:Program)(w:World)(K:W.Frag):R2:=λx y H Q=>rIx K x y H Q\/d1p P w K x y H Q
def Ck(hu:aJ!):IxR X (d1q X.prog X.w X.K):=Ap.or (c7z hu)
nonrec def Ec(M:Mh)(x y:D):Option D:=match x with
 |.fn a=>match M a with
  |some (.dct kvs _)=>(fD!).bind λ_=>kget kvs y
  |some (.lst xs)=>match y with|.int i=>Gf xs i|_=>none
  |_=>none
 |_=>Ar x y
def Cj{K:W.Frag}:OpM P w K (d1q P w K) Ec:=by
 show"!C";unfold Ec at e;show"!5"
 .rename_i a;cases Kt rx;show"!5"
  .show"#@";exact .inr ⟨M,G,a,kvs,ep,dy,d,kk,rfl,sub,m,hM,ry,e1,e2,λv r=>k v G H aP! r⟩
  .rename_i xs hM;show"!5"
   .rename_i i;cases Bp ry;show"##";obtain⟨v,e6,r6⟩:=aY Y e;exact .inl (.inl ⟨a,vs,i,v,rfl,rfl,kR!,e6,k v G H aP! r6⟩)
   .cases e
  .cases e
 .exact .inl (At sub rx ry e k)
nonrec def Qj(M:Mh)(x y:D):Option D:=match x with
 |.fn a=>match M a,y with
  |some (.lst xs),.lst ys=>if i_+M_<=big then some oa_ else none
  |_,_=>none
 |_=>Bb x y
def Qm{K:W.Frag}:OpM P w K (tX K) Qj:=by
 show"!C";unfold Qj at e;show"!5"
 .rename_i a;cases Kt rx;show"!5"
  .rename_i xs ys hM;show"!5"
   .show"!B";show"##";obtain⟨b,ws,rfl,qb,rb⟩:=Cp ry;exact .inr (.inr (.inr (.inr ⟨a,b,vs,ws,rfl,rfl,kR!,sub.seq qb,by rw[<-Aq Y,<-Aq rb];exact Ek hl,λp hp=>k _ _ _ g2! (Ew fg_ (Fm Y rb))⟩)))
   .cases e
  .cases e
 .exact Cq sub rx ry e k
end
nonrec def Hi{α:Type}(o:Option α)(R:pB!):Prop:=match o with|some a=>R a|none=>False
def Ef{α:Type}{o:Option α}{R:pB!}(h:Hi o R):∃a,o=some a/\R a:=by
 cases o with
 |none=>exact h.elim
 |some a=>exact⟨a,rfl,h⟩
nonrec def Mx(C:Addr)(x:Str)(M:Mh)(d:D):Option D:=match d with
 |.fn a=>match M a with
  |some (.obj C' fs)=>if C'=C then fs.lookup x else none
  |_=>none
 |_=>none
nonrec def Dg(f:Str)(v:D):List ci_->List ci_
 |[]=>[(f,v)]
 |(g,x)::r=>if g=f then(g,v)::r else(g,x)::Dg f v r
def a1h{K:W.Frag}{G:Hp}{x:Str}:∀{fs:aP_} {vs:ev!},cY K G fs vs->fs.lookup x=some d->∃v,vs.lookup x=some v/\Bl K G d v
 |_,_,.nil,e=>by simp at e
 |(a,b)::r,(a',b')::r',.cons ⟨B,Y⟩ t,e=>by
  have B:a=a':=B;subst B;cases L:(x==a)with
  |true=>
   simp only[BY,L]at e ⊢;cases e;exact⟨b',rfl,Y⟩
  |false=>
   simp only[BY,L]at e ⊢;exact a1h t e
def a1g{K:W.Frag}{G:Hp}{x:Str}:∀{fs:aP_} {vs:ev!},cY K G fs vs->fs.lookup x=none->vs.lookup x=none
 |_,_,.nil,_=>rfl
 |(a,b)::r,(a',b')::r',.cons ⟨B,Y⟩ t,e=>by
  have B:a=a':=B;subst B;cases L:(x==a)with
  |true=>simp only[BY,L]at e;cases e
  |false=>
   simp only[BY,L]at e ⊢;exact a1g t e
def a8t{K:W.Frag}{G:Hp}{x:Str}(r:ce_):∀{fs:aP_} {vs:ev!},cY K G fs vs->cY K G (Dg x d fs) (Us x v vs)
 |_,_,.nil=>.cons ⟨rfl,r⟩ .nil
 |(a,b)::fs,(a',b')::vs,.cons ⟨B,Y⟩ t=>by
  have B:a=a':=B;subst B;show cY K G (if a=x then(a,d)::fs else Y!::Dg x d fs) (if a=x then(a,v)::vs else(a,b')::Us x v vs);by_cases e:a=x
  .rw[AQ e,AQ e];exact .cons ⟨rfl,r⟩ t
  .rw[AI e,AI e];exact .cons ⟨rfl,Y⟩ (a8t r t)
section
variable{X:Cx}{own:List Nat}{e o a b:Expr}{es:List Expr}{pos ag ab p:Pos}{f fa fb fo:WE}{fs:WA}{x m:Str}{C:Addr}
nonrec def Bu(C:Addr)(x:Str)(f:WE):WE:=λρ M R=>f ρ M λd M1=>Hi (Mx C x M1 d) λv=>R v M1
def Ch(c:dS_)(n:Ie X.K C x)(h:bU!)(O:attributeBase e x X.env eA_=eval e X.env:=by rfl):ME X own (.Attribute e x pos) (Bu C x f):=
 Ij (c6o h.ok O) λZ G H Q ρ M R st e k=>⟨G,ρ,M,_,st,e,λd M1 v G1 H1 r1 x1 m1 q1=>by
  obtain⟨z,B,Y⟩:=Ef r1;cases d<;>first|(cases B;done)|skip
  rename_i ad;cases Kt q1;simp only[Mx]at B;split at B
  .rename_i C' fs hM;split at B
   .rename_i hC;subst hC;obtain⟨_,dx,vs,h3,h4⟩:=m1.cell ad _ hM;obtain⟨u,h5,h6⟩:=a1h h4 B;exact⟨ad,_,dx,vs,u,rfl,h3,c,n,h5,k z M1 u G1 H1 Y x1 m1 h6⟩
   .cases B
  .cases B⟩
nonrec def oH(P:Program)(w:World)(K:W.Frag)(r:cw!)(g:hC_):Prop:=∀{vs:k_} {ds:b_} {d:D} {M:Mh} {G H:Hp} {Q:VK},Cr G H->MR P w K M G H->Bc K G ds vs->g M ds=some d->jO!->r vs H Q
def Wy.toM{K:W.Frag}{r:cw!}{g:W_}(h:Wy K r g):oH P w K r pn!:=λs _ r e k=>h s r e k
nonrec def w1(g:hC_)(fs:WA):WE:=λρ M R=>fs ρ M λds M1=>Hi (g M1 ds) λd=>R d M1
def bN{id:String}{r:cw!}{g:hC_}(hc:m1_)(hd:zn!)(hg:R_)(hm:ct_)(hv:m2!)(ha:hD!)(hn:cu!:=by decide)
  (be:F_:=by decide)(he:al_:=by rfl)(av:aT_:=by rfl):ME X own bi! (w1 g fs):=
 Ij wn! λZ G H Q ρ M R st e' k=>⟨G,ρ,M,_,st,e',λds M1 vs G1 H1 r1 x1 m1 q1=>by
  obtain⟨d,B,Y⟩:=Ef r1;exact hd x1.sub m1 q1 B λv G2 H2 x2 q2=>k d M1 v G2 H2 Y zn_ (m1.ext x2) q2⟩
def rH{T:String}{r:cw!}{g:hC_}(hc:m2_)(hd:zn!)(hg:R_)(hm:ct_)(hv:i3_)(ha:hD!)(hn:cu!:=by decide)
  (be:F_:=by decide)(he:al_:=by rfl)(av:aT_:=by rfl):ME X own bi! (w1 g fs):=
 Ij wo! λZ G H Q ρ M R st e' k=>⟨G,ρ,M,_,st,e',λds M1 vs G1 H1 r1 x1 m1 q1=>by
  obtain⟨d,B,Y⟩:=Ef r1;exact hd x1.sub m1 q1 B λv G2 H2 x2 q2=>k d M1 v G2 H2 Y zn_ (m1.ext x2) q2⟩
nonrec def iD(M:Mh):List D->Option D
 |[.str x]=>Dh [.str x]
 |[d]=>(kO M d).map λxs=>.int i_
 |_=>none
def a5r{K:W.Frag}:oH P w K wD_ iD:=by
 show"!Y";unfold iD at e;show"!5"
 .exact Jr sub r e k
 .obtain⟨xs,e1,rfl⟩:=AO.mp e;show"!t";refine⟨fk_,i_,rfl,?_,ec_⟩;rw[Aq rr];exact q.elim (λz=>.inl zp_) λz=>.inr zp_
 .cases e
nonrec def a8g(M:Mh):List D->Option D
 |[d]=>(kO M d).bind λxs=>if i_<=big then some I! else none
 |_=>none
def c3g{K:W.Frag}:oH P w K wE! a8g:=by
 show"!Y";unfold a8g at e;show"!5"
 .obtain⟨xs,e1,e2⟩:=AB.mp e;split at e2
  .cases e2;show"!t";exact⟨p,ys,rfl,q,λl hl=>k _ _ _ zo_ (Ew (sub.free hl) rr)⟩
  .cases e2
 .cases e
nonrec def Nf(fs:WA):WE:=λρ M R=>fs ρ M λds M1=>f_<=1000/\∀p,M1 p=none->R y! (Cb M1 p cd!)
def bL(h:hw_):ME X own iV! (Nf fs):=
 Ij jS_ λZ G H Q ρ M R st e k=>⟨G,ρ,M,_,st,e,λds M1 vs G1 H1 r1 x1 m1 q1=>⟨by rw[<-Aq q1];exact Lw r1.1,λp hp=>
  k _ _ _ _ _ (r1.2 p (m1.nocell hp)) (x1.trans (.laid x1.sub hp) m1) (m1.laid hp x1.sub ⟨vs,Db,q1⟩) Bl.fn⟩⟩
nonrec def Qt(M:Mh)(d:D):Option (Addr×List D):=match d with
 |.fn p=>match M p with|some (.lst xs)=>some (p,xs)|_=>none
 |_=>none
def cQ{K:W.Frag}{M:Mh}{G H:Hp}{q:Addr×List D}(m:bT_)(r:ce_)(e:Qt M d=some q):d=.fn q.1/\v=.ref q.1/\M q.1=some (.lst q.2)/\∃vs,H q.1=some dj_/\Bc K G q.2 vs:=by
 cases d<;>first|(cases e;done)|skip
 show"#H";simp only[Qt]at e;show"!5"
 .rename_i xs hM;cases e;exact⟨rfl,rfl,hM,(m.cell p _ hM).2⟩
 .cases e
nonrec def Il(M:Mh)(d:D):Option (Addr×List aA!×Nat):=match d with
 |.fn p=>match M p with|some (.dct kvs ep)=>some kU_|_=>none
 |_=>none
def Ft{K:W.Frag}{M:Mh}{G:Hp}{q:zq_}(r:ce_)(e:Il M d=some q):d=.fn q.1/\v=.ref q.1/\M q.1=some pC!:=by
 cases d<;>first|(cases e;done)|skip
 show"#H";simp only[Il]at e;show"!5"
 .rename_i xs ep hM;cases e;exact⟨rfl,rfl,hM⟩
 .cases e
nonrec def Tt(fo fa:WE):WE:=λρ M R=>fo ρ M λd M1=>Hi pC_ λ_=>fa ρ M1 λv M2=>Hi (Qt M2 d) λq=>kV!<big/\R .non zs!
def iY(ho:cn_)(ha:aa_)(bz:jZ_:=by rfl)(gk:((oI_).all cB!&&(cB_).all cC!
   &&decide oJ!)=true:=by rfl) (dh:cA_:=by rfl)
  (df:attributeBase o "append" X.env c3_=eval o X.env:=by rfl) (gn:g7_:=by rfl):ME X own (.Call (.Attribute o "append" ag) [a] [] ab) (Tt fo fa):=
 Ij (qX FC PySem.F.slot_list_append PySem.F.type_list_append rE ho.ok (Gs ha.ok Ku bz) df gk dh bz gn) λZ G H Q ρ M R st e k=>
  ⟨G,ρ,M,_,st,e,λd M1 v G1 H1 r1 x1 m1 q1=>by
   obtain⟨c1,e1,r1⟩:=Ef r1;obtain⟨rfl,rfl,_,yr,hH,_⟩:=cQ m1 q1 e1;refine⟨.inl ⟨rfl,yr,Jf.of hH⟩,G1,ρ,M1,_,kH!,r1,λz M2 u G2 H2 r2 x2 m2 q2=>?_⟩;obtain⟨⟨p2,XY⟩,e2,r2⟩:=Ef r2;obtain⟨z1,z2,z3,vs,B,Y⟩:=cQ m2 bU_ e2;cases z2;refine⟨_,vs,u,rfl,rfl,B,by rw[<-Aq Y];exact BE r2.1 j4!,?_⟩;exact k _ _ _ _ _ r2.2 ((cl!).trans (.write m2 x2.sub z3) m2) (m2.write z3 ⟨_,Db,Fm Y (Bc.cons q2 Bc.nil)⟩) Bl.non⟩
def Ts{J:l_}{Z:St}{G H:Hp}{s:Shared}{M:Mh}{q:zq_}(I:d!)(m:bV_)(sub:L_)(e:M q.1=some pC!):
  s.TypeIs (.ref q.1) "dict"/\∀b,Value.ref q.1=.ref b->∃ob,s.heap.get? b=some ob/\ob.dict=none:=by
 obtain⟨es,_,_,h3,_⟩:=Jb I m sub e;refine⟨fB!,λb z=>?_⟩;cases z;obtain⟨o,h,hc,_⟩:=h3;exact⟨o,h,hc.2.1⟩
def ME.run{J:l_}{Z:St}{G H:Hp}{ρ:Ag}{M:Mh}{R:v_}{Q:p_}(h:bU!)(I:d!)(st:y0!)(hf:hw!)
  (k:∀d M' v G' H' u s',R d M'->XM M G H M' G' H'->MR X.prog X.w X.K M' G' H'->Bl X.K G' d v->Inv X J Z H' s'->Dm v u->Q u s'):wpAny e_ X.A eA_ Q X.xe s:=
 Gn (h.ok J s Z H (λv H'=>∃d M' G',R d M'/\XM M G H M' G' H'/\MR X.prog X.w X.K M' G' H'/\Bl X.K G' d v) I ⟨G,ρ,M,R,st,hf,λd M' v G' H' r x m q=>⟨d,M',G',r,x,m,q⟩⟩) λu s' ⟨v,H',I',rv,d,M',G',r,x,m,q⟩=>k d M' v G' H' u s' r x m q I' rv
nonrec def dD(fo fa:WE):WE:=λρ M R=>fo ρ M λd M1=>Hi hE! λ_=>fa ρ M1 λy M2=>Hi (Il M2 d) λq=>Hi fD! λ_=>R ((pD_).getD .non) M2
def b5z(hu:aJ!)(ho:cn_)(ha:aa_)(m:M1 X o "get" ag a ab):ME X own (.Call zu! [a] [] ab) (dD fo fa):=⟨by
 intro J s Z H Q I ⟨G,ρ,M,R,st,e,k⟩;refine IG m.base m.few m.line GB GP PySem.F.type_dict_get kW_;obtain⟨c1,e1,r1⟩:=Ef r1;obtain⟨rfl,rfl,hM⟩:=Ft q1 e1;cases rx;obtain⟨t1,t2⟩:=Ts I1 m1 x1.sub hM;refine kX_;rw[m.trees];refine EU rfl zu_;obtain⟨⟨p2,yt,sy⟩,e2,r2⟩:=Ef r2;obtain⟨kk,e3,r2⟩:=Ef r2;obtain⟨z1,z2,cx⟩:=Ft bU_ e2;cases z1;exact c3e (A:=X.A) a! I2 m2 x2.sub cx zv! e3 λov s' I' ⟨v',r',ap⟩=>⟨v',H2,I',ap,k _ M2 v' G2 H2 r2 cl! m2 r'⟩⟩
nonrec def Ob(fo fa fb:WE):WE:=λρ M R=>fo ρ M λd M1=>Hi hE! λ_=>fa ρ M1 λy M2=>fb ρ M2 λz M3=>Hi (Il M3 d) λq=>Hi fD! λ_=>R ((pD_).getD z) M3
def mI(hu:aJ!)(ho:cn_)(ha:aa_)(O:cl_)(m:M2 X o "get" ag a b ab):ME X own (.Call zu! ag! [] ab) (Ob fo fa fb):=⟨by
 intro J s Z H Q I ⟨G,ρ,M,R,st,e,k⟩;refine IG m.base m.few m.line GB GP PySem.F.type_dict_get kW_;obtain⟨c1,e1,r1⟩:=Ef r1;obtain⟨rfl,rfl,hM⟩:=Ft q1 e1;cases rx;obtain⟨t1,t2⟩:=Ts I1 m1 x1.sub hM;refine kX_;rw[m.trees];refine EU rfl (GA (FB (ha.run I1 fE_ r1 λy M2 yv G2 H2 iv s2 r2 x2 m2 q2 I2 ry=>
  FB zw_)))
 obtain⟨⟨p2,yt,sy⟩,e2,r3⟩:=Ef r3;obtain⟨kk,e3,r3⟩:=Ef r3;obtain⟨z1,z2,cx⟩:=Ft zx_ e2;cases z1;exact c3d (A:=X.A) a! I3 m3 x3.sub cx zy! e3 zy_ λov s' I' ⟨v',r',ap⟩=>⟨v',H3,I',ap,k _ M3 v' G3 H3 r3 pF_ m3 r'⟩⟩
nonrec def Os(fo fa fb:WE):WE:=λρ M R=>fo ρ M λd M1=>Hi hE! λ_=>fa ρ M1 λy M2=>fb ρ M2 λz M3=>Hi (Il M3 d) λq=>Hi fD! λ_=>q.2.1.length<big/\
 match kget q.2.1 y with
 |some v=>R v M3
 |none=>R z (Cb M3 q.1 (.dct (Bi q.2.1 y z) (q.2.2+1)))
def rG(hu:aJ!)(ho:cn_)(ha:aa_)(O:cl_)(m:M2 X o "setdefault" ag a b ab):ME X own (.Call (.Attribute o "setdefault" ag) ag! [] ab) (Os fo fa fb):=⟨by
 intro J s Z H Q I ⟨G,ρ,M,R,st,e,k⟩;refine IG m.base m.few m.line GB JW PySem.F.type_dict_setdefault kW_;obtain⟨c1,e1,r1⟩:=Ef r1;obtain⟨rfl,rfl,hM⟩:=Ft q1 e1;cases rx;obtain⟨t1,t2⟩:=Ts I1 m1 x1.sub hM;refine kX_;rw[m.trees];refine EU rfl (GA (FB (ha.run I1 fE_ r1 λy M2 yv G2 H2 iv s2 r2 x2 m2 q2 I2 ry=>
  FB zw_)))
 obtain⟨⟨p2,yt,sy⟩,e2,r3⟩:=Ef r3;obtain⟨kk,e3,hl,r3⟩:=Ef r3;obtain⟨z1,z2,cx⟩:=Ft zx_ e2;cases z1;have lg:=(cl!).trans x3 m2;refine pU (A:=X.A) a! I3 m3 x3.sub cx zy! e3 zy_ hl (λw ov s' hw I' ⟨v',r',ap⟩=>?_) λhn au s' I' c'=>?_
 .dsimp only at r3;rw[hw]at r3;exact⟨v',H3,I',ap,k _ M3 v' G3 H3 r3 lg m3 r'⟩
 .dsimp only at r3;rw[hn]at r3;exact⟨zv,_,I',rz,k _ _ zv G3 _ r3 (lg.trans (.write m3 x3.sub cx) m3) (m3.write cx c') q3⟩⟩
nonrec def b9i(fo fa:WE):WE:=λρ M R=>fo ρ M λd M1=>Hi hE! λ_=>fa ρ M1 λy M2=>Hi (Il M2 d) λq=>Hi fD! λ_=>Hi pD_ λv=>R v (Cb M2 q.1 (.dct (Mg q.2.1 y) (q.2.2+1)))
def b5y(hu:aJ!)(ho:cn_)(ha:aa_)(m:M1 X o "pop" ag a ab):ME X own (.Call zz_ [a] [] ab) (b9i fo fa):=⟨by
 intro J s Z H Q I ⟨G,ρ,M,R,st,e,k⟩;refine IG m.base m.few m.line GB PySem.F.slot_dict_pop PySem.F.type_dict_pop kW_;obtain⟨c1,e1,r1⟩:=Ef r1;obtain⟨rfl,rfl,hM⟩:=Ft q1 e1;cases rx;obtain⟨t1,t2⟩:=Ts I1 m1 x1.sub hM;refine kX_;rw[m.trees];refine EU rfl zu_;obtain⟨⟨p2,yt,sy⟩,e2,r2⟩:=Ef r2;obtain⟨kk,e3,r2⟩:=Ef r2;obtain⟨w,e4,r2⟩:=Ef r2;obtain⟨z1,z2,cx⟩:=Ft bU_ e2;cases z1;exact c9b (A:=X.A) a! I2 m2 x2.sub cx zv! e3 e4 λau ov s' I' c' ⟨v',r',ap⟩=>⟨v',_,I',ap,k _ _ v' G2 _ r2 ((cl!).trans (.write m2 x2.sub cx) m2) (m2.write cx c') r'⟩⟩
nonrec def Jg:WE:=λρ M R=>∀p,M p=none->R y! cO!
def Kn:ME X own (.Dict [] [] pos) Jg:=⟨by
 intro J s Z H Q I ⟨G,ρ,M,R,st,e,k⟩;have hp:H p!=none:=I.fresh;have D0:fJ zC! s.heap.objs.size [] 0:=zC_;refine wpAny_Dict_empty ⟨cA!,upd H s.heap.objs.size zD!,zF!,rfl,?_⟩
 .obtain⟨⟨o,z1,z2,z3⟩,z4⟩:=z;exact pt!
 .exact k _ _ _ G _ (e _ (st.mr.nocell hp)) (.laid st.or.sub hp) (st.mr.laid hp st.or.sub zF_) Bl.fn⟩
end
abbrev WP:=Ag->Mh->(List aA!->Mh->Prop)->Prop
nonrec def c5e(K:W.Frag)(G:Hp):List aA!->List pI_->Prop:=Paired λp q=>Fy K G p.1 q.1/\Fy K G p.2 q.2
structure MP(X:Cx)(own:j_)(pos:Pos)(keys:List (Option Expr))(jm:bu_)(f:WP):Prop where
 ok:∀(J:l_) (s:Shared) (Z:St) (G H:Hp) (ρ:Ag) (M:Mh) (R:zG_) (Q:List pI_->Shared->Prop),Inv X J Z H s->xF X.prog X.w X.K own G H Z ρ M->f ρ M R->
  (∀kvs M' G' H' us s',R kvs M'->XM M G H M' G' H'->MR X.prog X.w X.K M' G' H'->c5e X.K G' kvs us->Inv X J Z H' s'->Q us s')->wpAny e_ X.A (evalPairs (pairTrees keys jm X.env pos)) Q X.xe s
section
variable{X:Cx}{own:List Nat}{e o a b:Expr}{es:List Expr}{pos ag ab p:Pos}{f fa fb fo:WE}{fs:WA}{fp:WP}{keys:List (Option Expr)}{jm:List Expr}
nonrec def aJ:WP:=λ_ M R=>R [] M
nonrec def Im(fa fb:WE)(fp:WP):WP:=λρ M R=>fa ρ M λx M1=>fb ρ M1 λy M2=>fp ρ M2 λkvs M3=>R ((x,y)::kvs) M3
def mD:MP X own pos [] [] aJ:=⟨λJ s Z G H ρ M R Q I st e k=>pairTrees_nil_walk (k [] M G H [] s e pm_ st.mr .nil I)⟩
def Ow(ha:aa_)(O:cl_)(hp:zH_):MP X own pos (some a::keys) (b::jm) (Im fa fb fp):=⟨λJ s Z G H ρ M R Q I st e k=>
 pairTrees_cons_walk (ha.run I st e λx M1 v G1 H1 u s1 r1 x1 m1 q1 I1 ru=>O.run I1 fE_ r1 λy M2 v2 G2 H2 u2 s2 r2 x2 m2 q2 I2 SK=>
  hp.ok J s2 Z G2 H2 ρ M2 _ _ I2 zw! r2 λkvs M3 G3 H3 us s3 r3 x3 m3 q3 I3=>
   k _ M3 G3 H3 _ s3 r3 pF_ m3 (.cons ⟨⟨v,(bU_).mono x3.g,ru⟩,⟨v2,q2.mono x3.g,SK⟩⟩ q3) I3)⟩
def Pw:∀{l:g!} {d x:D},d∉l.map b!->Bi l d x=l++er!
 |[],_,_,_=>rfl
 |(y,z)::l,d,x,h=>by
  rw[AH,AE,GO]at h;unfold Bi;rw[kY_,Pw h.2];rfl
def mS:∀{l:g!} {d:D},d∉l.map b!->kget l d=none
 |[],_,_=>rfl
 |(y,z)::l,d,h=>by
  rw[AH,AE,GO]at h;unfold kget;rw[kY_,mS h.2]
def qG{J:l_}{Z:St}{G:Hp}{A:Around}{E:p_}(hu:ao!):∀{kvs:g!} {us:List pI_} {acc:g!} {H:Hp} {s:Shared} {M:Mh} {n:Nat} {Q:zI_},c5e X.K G kvs us->Inv X J Z H s->MR X.prog X.w X.K M G H->Cr G H->
  M c=some (.dct acc n)->co!+aB!<=1000->(∀p∈kvs,(Ha p.1).isSome=true)->((acc++kvs).map b!).Nodup->
  (∀H' s',Inv X J Z H' s'->XM M G H zK! G H'->MR X.prog X.w X.K zK! G H'->Q PUnit.unit s')->
  wpAny e_ A (forIn us PUnit.unit λ(x:Value×Value) (_:PUnit)=>(do dictSet c x.1 x.2;pure (ForInStep.yield PUnit.unit):Sem zL!)) Q E s
 |_,_,acc,H,s,M,n,Q,.nil,I,m,sub,hM,hl,hk,nd,k=>by
  rw[HI];have hc:Cb M c (.dct (acc++[]) (n+0))=M:=by
   funext b;unfold Cb;split
   .rename_i e;rw[e,BL,hM];rfl
   .rfl
  have k:=k H s I;rw[EG,hc]at k;exact AC (k (.refl sub) m)
 |(d,x)::kvs,(u,v)::us,acc,H,s,M,n,Q,.cons r t,I,m,sub,hM,hl,hk,nd,k=>by
  rw[FP];obtain⟨kk,hd⟩:=HP.mp (hk _ AL);have pj:d∉acc.map b!:=λz=>by
   rw[BJ,BP]at nd;exact nd.2.2 d z d c_ rfl
  simp only[AJ]at hl;refine AA (AA (b8a hu I m sub hM r.1 hd r.2 (BE a! (show 1001<=big by decide)) λau s' I' c'=>AC ?_));have v0:Lk acc d n=n+1:=by unfold Lk;rw[mS pj];simp
  rw[v0,Pw pj]at c';rw[v0]at I';have m':=m.write hM c';have SL:Cr G (upd H c (dE c au bD!)):=(XM.write (c:=.dct (acc++er!) bD!) m sub hM).sub;refine qG hu t I' m' SL mup_same k0_ (λp hp=>hk p jx_) (by rw[CQ];exact nd) λH2 s2 I2 x2 m2=>?_;have hc:Cb (Cb M c (.dct (acc++er!) bD!)) c (.dct (acc++er!++kvs) (n+1+aB!))=Cb M c (.dct (acc++bD_::kvs) (n+(bD_::kvs).length)):=by
   funext b;unfold Cb;split
   .rw[CQ,AJ];simp only[List.singleton_append];rw[show n+1+kvs.length=n+(kvs.length+1)by omega]
   .rfl
  rw[hc]at x2 m2;exact k H2 s2 I2 ((XM.write m sub hM).trans x2 m') m2
nonrec def aL(fp:WP):WE:=λρ M R=>∀p,M p=none->fp ρ cO! λkvs M1=>M1 p=some D_/\aB!<=1000/\(∀q∈kvs,(Ha q.1).isSome=true)/\(fy_).Nodup/\R y! (Cb M1 p (.dct kvs aB!))
def bM(hu:aJ!)(hp:zH_)(gq:keys.all (·.isSome)=true:=by rfl)(hl:keys.length=jm.length:=by rfl)(h0:keys≠[]:=by simp)(XZ:keys.length<=15:=by decide):ME X own (.Dict keys jm pos) (aL fp):=⟨by
 intro J s Z H Q I ⟨G,ρ,M,R,st,e,k⟩;have hn:=pairTrees_length keys jm X.env pos gq hl;have db:pairTrees keys jm X.env pos≠[]:=λz=>by rw[z]at hn;exact h0 (GE.mp hn.symm)
 rw[arm_eval_Dict,zip_pairTrees keys jm X.env pos gq hl,dictDisplay_pairs _ db a!];unfold subDict;have hf:H p!=none:=I.fresh;have D0:fJ zC! s.heap.objs.size [] 0:=zC_;have I1:Inv X J Z pL_ {s with heap:=s.heap.push {cls:=.type "dict",data:=.dict #[]}}:=by
  refine zF!;obtain⟨⟨o,z1,z2,z3⟩,z4⟩:=z;exact pt!
 have x0:XM M G H zN! G pL_:=.laid st.or.sub hf;have m0:MR X.prog X.w X.K zN! G pL_:=st.mr.laid hf st.or.sub zF_;refine AA (IP (AA (AA (wpAny_alloc (AA (CC ?_))))));rw[Y_];refine AA (hp.ok J _ Z G _ ρ _ _ _ I1 (st.grow x0 m0) (e _ (st.mr.nocell hf)) λkvs M1 G1 H1 us s1 r1 x1 m1 q1 I2=>?_);obtain⟨hM1,ak,hk,nd,r1⟩:=r1;refine CC (AA (qG (A:=X.A) (acc:=[]) a! q1 I2 m1 x1.sub hM1 (by simpa using ak) hk nd λH2 s2 I3 x2 m2=>AC (AC (AC ⟨cA!,H2,I3,rfl,?_⟩))));have NM:=(x0.trans x1 m0).trans x2 m1;simp only[CZ,II]at NM m2;exact k _ _ _ G1 H2 r1 NM m2 Bl.fn⟩
end
abbrev WS:=Ag->Mh->(Fl->Mh->Prop)->Prop
structure Rj(P:Program)(w:World)(K:W.Frag)(own:j_)(M0:Mh)(G0 F0:Hp)(M:Mh)(G H:Hp)(Z:St)(ρ:Ag):Prop where
 st:xF P w K own G H Z ρ M
 x:XM M0 G0 F0 M G H
 fr:∀i∈own,∀p,Z[i]?=some cd_->F0 p=none
inductive tmS(P:Program)(w:World)(K:W.Frag)(M0:Mh)(G0 F0:Hp)(own h2:j_)(f:WS)(E:a6a)(Z:St)(H:Hp):Prop
 |mk (G:Hp) (ρ:Ag) (M:Mh) (R:q_) (st:bX!) (e:hw!) (a:∀ρ' M' G' hx H',R co_ M'->Rj P w K h2 M0 G0 F0 M' G' H' hx ρ'->E.nx hx H') (b:∀d M' v G' H',R aY! M'->XM M0 G0 F0 M' G' H'->MR P w K M' G' H'->Bl K G' d v->E.rt v H'):tmS P w K M0 G0 F0 own h2 f E Z H
structure MS(X:Cx)(own h2:j_)(st:Stmt)(f:WS):Prop where
 ok:∀M0 G0 F0,PS X st zN_
structure MSs(X:Cx)(own h2:j_)(st:bH!)(f:WS):Prop where
 ok:∀M0 G0 F0,PSs X st zN_
section
variable{P:Program}{w:World}{K:W.Frag}{own h2:List Nat}{M0 M M':Mh}{G0 F0 G H G' H':Hp}{Z hx:St}{ρ ρ':Ag}
def Rj.grow(s:bX!)(x:kF!)(m:yV_):Rj P w K own M0 G0 F0 M' G' H' Z ρ:=⟨s.st.grow x m,s.x.trans x s.st.mr,s.fr⟩
def Rj.set{i:Nat}(s:bX!)(hi:bm_)(r:ce_):Rj P w K own M0 G0 F0 M G H ey_ bO_:=by
 have ne:∀j∈own,i≠j:=λj hj z=>hi (z▸hj);refine⟨⟨s.st.or.set hi r,s.st.mr,zO!⟩,s.x,zO!⟩
 .rw[BR (ne j hj)]at e;exact s.st.dj j hj p e
 .rw[BR (ne j hj)]at e;exact s.fr j hj p e
nonrec def Lq(own:j_)(Z:St)(H:Hp):Hp:=λb=>if b∈Rt own Z then none else H b
def Rj.sr(s:bX!):SR K own G k1! G H Z ρ:=by
 refine⟨s.st.or,⟨fd!,jJ!,s.st.or.sub,dp!⟩,w1!⟩
 .unfold Lq at e;show"!5"
  .cases e
  .exact e
 .unfold Lq;rw[AQ (yO hi e)]
def Rj.root(s:bX!){b:Addr}(h:b∈Rt own Z):M b=none/\F0 b=none:=by obtain⟨i,hi,q⟩:=Xm h;exact⟨s.st.dj i hi b q,s.fr i hi b q⟩
def Rj.noF(s:bX!){b:Addr}(h:Lq own Z H b=none):F0 b=none:=by
 unfold Lq at h;split at h
 .rename_i O;exact(k1_).2
 .cases hM:M0 b with
  |none=>exact s.x.free hM h
  |some c=>exact absurd h (s.st.mr.has (s.x.cells b yU_))
def Rj.cellF(s:bX!){b:Addr}{c:dA}(h:M b=some c):Lq own Z H b=H b/\H b≠none:=by refine⟨?_,s.st.mr.has (by rw[h];simp)⟩;unfold Lq;rw[AI (λO=>by rw[(k1_).1]at h;cases h)]
def Rj.mr'(s:bX!)(x:zO_):MR P w K M G' H':=⟨λa c e=>by
 obtain⟨B,Y⟩:=s.st.mr.cell a c e;obtain⟨e1,e2⟩:=s.cellF e;refine yV!
 .cases q:G' a with
  |none=>rfl
  |some o=>
   rcases x.new a b9_ with z|z
   .exact absurd B z
   .rw[e1]at z;exact absurd z e2
 .cases q:H a with
  |none=>exact absurd q e2
  |some o=>exact x.h a o (e1.trans q)⟩
def Rj.x'(s:bX!)(x:zO_):XM M0 G0 F0 M G' H':=by
 refine⟨s.x.g.trans x.g,x.sub,bm!,zP!,s.x.dom,s.x.cells⟩
 .rcases x.new b h with z|z
  .exact s.x.new b z
  .exact pO!
 .have B:=s.x.keep b o e O;refine x.h b o ?_;unfold Lq;rw[zP_];exact B
def Rj.after(s:bX!)(r:SR K h2 G k1! G' H' hx ρ'):Rj P w K h2 M0 G0 F0 M G' H' hx ρ':=
 ⟨⟨r.or,s.mr' r.ext,λi hi p e=>by
  cases q:M p with
  |none=>rfl
  |some c=>
   obtain⟨e1,e2⟩:=s.cellF q;have:=r.fr i hi p e;rw[e1]at this;exact absurd this e2⟩,s.x' r.ext,λi hi p e=>s.noF (r.fr i hi p e)⟩
end
section
variable{X:Cx}{own bi jj:List Nat}{st:Stmt}{rest body:List Stmt}{e a b c tg o:Expr}{es:List Expr}{pos p2:Pos}{f fa fb fc fo:WE}{fs:WA}{ft fu:WT}{q1 q2 q3:WS}{q:Ag->Option Fl}
def bI{t:TS}(h:ih_)(hw:∀M0 G0 F0 E Z G H ρ M R,Rj X.prog X.w X.K own M0 G0 F0 M G H Z ρ->q1 ρ M R->
  (∀ρ' M' G' hx H',R co_ M'->Rj X.prog X.w X.K bi M0 G0 F0 M' G' H' hx ρ'->E.nx hx H')->(∀d M' v G' H',R aY! M'->XM M0 G0 F0 M' G' H'->MR X.prog X.w X.K M' G' H'->Bl X.K G' d v->E.rt v H')->t E Z H):MS X own bi st q1:=
 ⟨λM0 G0 F0 J s Z H E I ⟨G,ρ,M,R,sr,e,k1,k2⟩=>h J s Z H E I (hw M0 G0 F0 E Z G H ρ M R sr e k1 k2)⟩
nonrec def pZ(q:aI_):WS:=λρ M R=>Hi (q ρ) λr=>R r M
def a4n(h:DS X own bi st q):MS X own bi st (pZ q):=⟨λM0 G0 F0 J s Z H E I ⟨G,ρ,M,R,sr,e,k1,k2⟩=>by
 obtain⟨r,e1,e2⟩:=Ef e;refine h.ok G k1! J s Z H E I ⟨G,ρ,r,sr.sr,e1,?_⟩;cases r with
 |nx ρ'=>exact λG' hx H' cf=>k1 ρ' M G' hx H' e2 (sr.after cf)
 |rt d=>exact λv G' H' x r=>k2 d M v G' H' e2 (sr.x' x) (sr.mr' x) r⟩
nonrec def Eu:WS:=λρ M R=>R an_ M
nonrec def Ao(q1 q2:WS):WS:=λρ M R=>q1 ρ M λr M1=>match r with|.nx ai=>q2 ai M1 R|.rt d=>R aY! M1
def Dv:MSs X own own [] Eu:=⟨λM0 G0 F0 J s Z H E I ⟨G,ρ,M,R,sr,e,k1,k2⟩=>a7f J s Z H E I (k1 ρ M G Z H e sr)⟩
def Aj(B:zQ!)(Y:MSs X bi jj rest q2):MSs X own jj l8! (Ao q1 q2):=⟨λM0 G0 F0 J s Z H E I ⟨G,ρ,M,R,sr,e,k1,k2⟩=>
 zG pO_ zQ_ J s Z H E I ⟨G,ρ,M,_,sr,e,λρ' M' G' hx H' r dz=>⟨G',ρ',M',R,dz,r,k1,k2⟩,λd M' v G' H' r x m q=>k2 d M' v G' H' r x m q⟩⟩
def Am(B:zQ!):MSs X own bi [st] q1:=⟨λM0 G0 F0=>a7e pO_⟩
def Rj.free{P:Program}{w:World}{K:W.Frag}{M0 M:Mh}{G0 F0 G H:Hp}{Z:St}{ρ:Ag}(s:bX!):Rj P w K [] M0 G0 F0 M ff! H Z ρ:=by
 have o:=s.st.or.full;have sG:Cr G ff!:=λb u e=>by
  unfold Uq;split
  .exact s.st.or.sub b u e
  .exact e
 refine⟨⟨o,⟨λa c e=>?_⟩,am_⟩,⟨s.x.g.trans sG,o.sub,bm!,s.x.keep,s.x.dom,s.x.cells⟩,am_⟩
 .obtain⟨B,Y⟩:=s.st.mr.cell a c e;refine⟨?_,Y.mono sG rfl⟩;unfold Uq;rw[AI (λO=>by rw[(k1_).1]at e;cases e)];exact B
 .unfold Uq at h;split at h
  .rename_i O;exact .inr (k1_).2
  .exact s.x.new b h
def bH(h:MSs X [] jj rest q1):MSs X own jj rest q1:=⟨λM0 G0 F0 J s Z H E I ⟨G,ρ,M,R,sr,e,k1,k2⟩=>h.ok M0 G0 F0 J s Z H E I ⟨_,ρ,M,R,sr.free,e,k1,k2⟩⟩
nonrec def Cn(f:WE):WS:=λρ M R=>f ρ M λd M1=>R aY! M1
def Dd(h:bU!):MS X own bi l8_ (Cn f):=bI (b4l h.ok) λM0 G0 F0 E Z G H ρ M R sr e k1 k2=>
 ⟨G,ρ,M,_,sr.st,e,λd M' v G' H' r x m q=>k2 d M' v G' H' r (sr.x.trans x sr.st.mr) m q⟩
nonrec def jO:WS:=λ_ M R=>R (.rt .non) M
def uP:MS X own bi rM! jO:=bI c0r λM0 G0 F0 E Z G H ρ M R sr e k1 k2=>k2 _ M _ G H e sr.x sr.st.mr Bl.non
nonrec def Az(i:Nat)(f:WE):WS:=λρ M R=>f ρ M λd M1=>R (.nx bO_) M1
def Bo{i:Nat}(hN:bt!)(hi:ai_)(L:bt_)(h:bU!)(bp:bm_:=by decide)(hs:wP!:=by rfl)
  (hf:X.fn x=true\/X.env.scope.names.lookup x=some .local:=by first|exact .inl rfl|exact .inr rfl|assumption):MS X own own wP_ (Az i f):=
 bI wQ! λM0 G0 F0 E Z G H ρ M R sr e k1 k2=>⟨G,ρ,M,_,sr.st,e,λd M' v G' H' r x m q=>k1 _ M' G' _ H' r ((pP!).set bp q)⟩
nonrec def Bs(ft:WT)(q1 q2:WS):WS:=λρ M R=>ft ρ M λb M1=>if b then q1 ρ M1 R else q2 ρ M1 R
def Fd{b1 b2:bH!}(hc:pq_)(B:MSs X own bi b1 q1)(Y:MSs X own bi b2 q2):MS X own bi wQ_ (Bs ft q1 q2):=⟨λM0 G0 F0 J s Z H E I ⟨G,ρ,M,R,sr,e,k1,k2⟩=>by
 refine c4l hc.ok pO_ zQ_ J s Z H E I ⟨G,ρ,M,_,sr.st,e,λb M' G' H' r x m=>?_⟩;cases b with
 |true=>exact Wi zS!
 |false=>exact Wj zS!⟩
nonrec def De(f:WE):WS:=λρ M R=>f ρ M λ_ M1=>R an_ M1
def Em(h:bU!)(hs:rL!:=by rfl):MS X own own (.Expr e pos) (De f):=
 bI (iT h.ok hs) λM0 G0 F0 E Z G H ρ M R sr e k1 k2=>⟨G,ρ,M,_,sr.st,e,λd M' v G' H' r x m q=>k1 ρ M' G' Z H' r pP!⟩
nonrec def Mn:WS:=λ_ _ _=>False
def Rx:MS X own bi st Mn:=zT_
nonrec def Hj(C:Addr)(x:Str)(fo f:WE):WS:=λρ M R=>f ρ M λy M1=>fo ρ M1 λd M2=>match d with
 |.fn p=>(match M2 p with|some (.obj C' fs)=>C'=C/\bs!<100/\R an_ (Cb M2 p pP_)|_=>False)
 |_=>False
def Lv(c:dS_)(n:Ie X.K C x)(ho:cn_)(h:bU!)(hs:swapsWith e (some (.Attribute o x p2)) pos.line X.env=pure false:=by rfl):MS X own own (.Assign [.Attribute o x p2] e pos) (Hj C x fo f):=
 bI (c6i ho.ok h.ok hs) λM0 G0 F0 E Z G H ρ M R sr e k1 k2=>⟨G,ρ,M,_,sr.st,e,λy M1 v G1 H1 r1 x1 m1 q1=>⟨G1,ρ,M1,_,sr.st.grow x1 m1,r1,λd M2 u G2 H2 r2 x2 m2 q2=>by
  cases d<;>first|exact r2.elim|skip
  rename_i p;cases Kt q2;dsimp only at r2;split at r2
  .rename_i C' fs hM;obtain⟨hC,hl,r2⟩:=r2;subst hC;obtain⟨_,dx,vs,h3,h4⟩:=m2.cell p _ hM;have ak:bs!=by!:=FI h4;exact⟨p,_,dx,vs,rfl,h3,c,n,r!,k1 ρ _ G2 Z _ r2 ((zV!).grow (.write m2 x2.sub hM) (m2.write hM ⟨dx,_,Db,a8t bU_ h4⟩))⟩
  .exact r2.elim⟩⟩
nonrec def Ur(M:Mh)(d y v:D):Option Mh:=match d with
 |.fn p=>match M p with
  |some (.dct kvs ep)=>if(fD!).isSome&&decide (aB!<big)then some hG! else none
  |some (.lst xs)=>match y with
   |.int j=>(Ig xs.length j).map λk=>Cb M p (.lst (xs.set k v))
   |_=>none
  |_=>none
 |_=>none
nonrec def d1k(P:Program)(w:World)(K:W.Frag):V->V->V->Hp->l9!->Prop:=λo i v H Q=>∃(M:Mh) (G:Hp) (a:Addr) (kvs:g!) (ep:Nat) (d x:D) (k:MK),o=.ref a/\Cr G H/\MR P w K M G H/\M a=some hz!/\Bl K G d i/\Ha d=some k/\Bl K G x v/\aB!<big/\
 ∀au,My P w K G kJ_ a zc_->Q kJ_
def b9w(hu:aJ!):b1w X (d1k X.prog X.w X.K):=by intro J s Z H o i v ov iv u Q I ro ri rv h;obtain⟨M,G,a,kvs,ep,d,x,k,rfl,sub,m,e,r,hk,rx,hl,q⟩:=h;cases ro;exact a5p (A:=X.A) a! I m sub e ⟨_,r,ri⟩ hk ⟨_,rx,rv⟩ hl λau s' I' c'=>⟨_,I',q au c'⟩
def c0p{r r':c3o}(h:b1w X r)(h':b1w X r'):b1w X (λo i v H Q=>r o i v H Q\/r' o i v H Q):=by
 intro J s Z H o i v ov iv u Q I ro ri rv q;rcases q with q|q
 .exact h J s Z H o i v ov iv u Q I ro ri rv q
 .exact h' J s Z H o i v ov iv u Q I ro ri rv q
nonrec def Dz(fo fi f:WE):WS:=λρ M R=>f ρ M λv M1=>fo ρ M1 λd M2=>fi ρ M2 λy M3=>Hi pR_ λM4=>R an_ M4
def Gu{fi:WE}(hu:aJ!)(ho:cn_)(hi:ME X own i fi)(h:bU!)
  (ha:∀v,assign zX_ X.env v=(do
   let ov <-holding [v] c3_
   let iv <-holding [v,ov] rQ_
   standAt p2
   holding eF_ mb!
   release eF_ []):=by intro _;rfl)
  (hs:swapsWithSole k4_ e pos.line X.env=pure false:=by rfl) (hw:swappedStores k4_ e X.env=pure none:=by rfl)
  (B:(assignEach k4_ X.env).map A_=[assign zX_ X.env]:=by rfl):MS X own own (.Assign k4_ e pos) (Dz fo fi f):=
 bI (b4n h.ok (b4r ho.ok hi.ok (c0p yC (b9w hu)) ha) hs hw B) λM0 G0 F0 E Z G H ρ M R sr e k1 k2=>⟨G,ρ,M,_,sr.st,e,λv M1 vv G1 H1 r1 x1 m1 q1=>⟨G1,ρ,M1,_,sr.st.grow x1 m1,r1,λd M2 dv G2 H2 r2 x2 m2 q2=>
  ⟨G2,ρ,M2,_,(sr.st.grow x1 m1).grow x2 m2,r2,λy M3 yv G3 H3 r3 x3 m3 q3=>by
   obtain⟨M4,e4,r4⟩:=Ef r3;have v7:=(zV!).grow x3 m3;have qd:=q2.mono x3.g;have qv:=(bU_).mono x3.g;unfold Ur at e4;split at e4
   .rename_i p;cases Kt qd;split at e4
    .rename_i kvs ep hM;split at e4
     .rename_i hc;rw[BH,BM]at hc;cases e4;obtain⟨kk,hk⟩:=HP.mp hc.1;exact .inr ⟨M3,G3,p,kvs,ep,y,v,kk,rfl,x3.sub,m3,hM,q3,hk,qv,hc.2,λau c'=>k1 ρ _ G3 Z _ r4 (v7.grow zY! (m3.write hM c'))⟩
     .cases e4
    .rename_i xs hM;split at e4
     .rename_i j;cases Bp q3;obtain⟨n,e5,rfl⟩:=AO.mp e4;obtain⟨_,vs,h3,h4⟩:=m3.cell p _ hM;exact .inl ⟨p,vs,j,n,rfl,rfl,h3,by rw[<-Aq h4];exact e5,k1 ρ _ G3 Z _ r4 (v7.grow zY! (m3.write hM ⟨_,Db,kZ qv n h4⟩))⟩
     .cases e4
    .cases e4
   .cases e4⟩⟩⟩
nonrec def xN(i:Nat)(f:WE):WS:=λρ M R=>match ρ[i]? with
 |some (some (.int a))=>f ρ M λd M1=>(match d with|.int b=>R (.nx (ρ.set i (some (.int (a+b))))) M1|_=>False)
 |_=>False
def b5u{i:Nat}(hN:bt!)(hi:ai_)(L:bt_)(h:bU!)(bp:bm_:=by decide)
  (hf:X.fn x=true\/X.env.scope.names.lookup x=some .local:=by first|exact .inl rfl|exact .inr rfl|assumption):MS X own own (.AugAssign dm_ .Add e pos) (xN i f):=
 bI (c6j hN hi L h.ok c8c hf) λM0 G0 F0 E Z G H ρ M R sr e k1 k2=>by
  unfold xN at e;show"!5"
  .rename_i a ny;obtain⟨v,B,Y⟩:=sr.st.or.at_ i _ ny bp;cases Bp Y;refine⟨_,B,G,ρ,M,_,sr.st,e,zZ!⟩;cases d<;>first|exact r.elim|skip
   cases Bp q;exact⟨a,_,rfl,rfl,k1 _ M' G' _ H' r ((pP!).set bp Bl.int)⟩
  .exact e.elim
nonrec def Ez(ft:WT)(q:WS):Nat->WS
 |0=>λ_ _ _=>False
 |n+1=>λρ M R=>ft ρ M λb M1=>if b then q ρ M1 (λr M2=>match r with|.nx bh=>Ez ft q n bh M2 R|.rt d=>R aY! M2)else R an_ M1
nonrec def Io(ft:WT)(q:WS):WS:=λρ M R=>∃n,Ez ft q n ρ M R
def Pv(hp:gc!)(hc:pq_)(O:z0!):MS X own own rV! (Io ft q1):=⟨λM0 G0 F0 J s Z H E I ⟨G,ρ,M,R,sr,⟨n,e⟩,k1,k2⟩=>by
 refine b4k hp hc.ok (O.ok M0 G0 F0) J s Z H E I ⟨λm hx H'=>∃G' ρ' M',Rj X.prog X.w X.K own M0 G0 F0 M' G' H' hx ρ'/\Ez ft q1 m ρ' M' R,⟨n,G,ρ,M,sr,e⟩,?_⟩;rintro m hx H' ⟨G',ρ',M',dz,e'⟩;cases m with
 |zero=>exact e'.elim
 |succ m=>
  refine⟨G',ρ',M',_,dz.st,e',λb M1 G1 H1 r1 x1 m1=>?_⟩;cases b with
  |true=>exact Wi ⟨λc8 H2=>∃G2 bh M2,Rj X.prog X.w X.K own M0 G0 F0 M2 G2 H2 c8 bh/\Ez ft q1 m bh M2 R,λc8 H2 h=>⟨m,FF m,h⟩,G1,ρ',M1,_,dz.grow x1 m1,r1,λbh M2 G2 c8 H2 r2 yu=>⟨G2,bh,M2,yu,r2⟩,λd M2 v G2 H2 r2 x2 m2 q2=>k2 d M2 v G2 H2 r2 x2 m2 q2⟩
  |false=>exact Wj (k1 ρ' M1 G1 hx H1 r1 (dz.grow x1 m1))⟩
end
nonrec def ItM(P:Program)(w:World)(K:W.Frag)(ac:It)(ds:b_)(ck:cP!)(G1:Hp):Prop:=∀(i:Nat) (M':Mh) (G' H':Hp),Cr G1 G'->Cr G' H'->MR P w K M' G' H'->ck M'->
 wG!/\wG_
abbrev WI:=Ag->Mh->(List D->(Mh->Prop)->Mh->Prop)->Prop
inductive tmI(P:Program)(w:World)(K:W.Frag)(own:j_)(fi:WI)(Z:St)(H:Hp)(R:gd!):Prop
 |mk (G:Hp) (ρ:Ag) (M:Mh) (T:List D->(Mh->Prop)->Mh->Prop) (st:hv_) (e:fi ρ M T) (k:∀ds ck M1 ac G1 H1,T ds ck M1->XM M G H M1 G1 H1->MR P w K M1 G1 H1->ItM P w K ac ds ck G1->R ac H1):tmI P w K own fi Z H R
structure MI(X:Cx)(own:j_)(tg iter:Expr)(fi:WI):Prop where
 ok:PI X tg iter (tmI X.prog X.w X.K own fi)
section
variable{X:Cx}{own bi jj:List Nat}{st:Stmt}{rest body:List Stmt}{e a b c tg o:Expr}{es:List Expr}{pos p2:Pos}{f fa fb fc fo:WE}{fs:WA}{fi:WI}{ft fu:WT}{q1 q2 q3:WS}{di:Ag->Option (List D)}
def c4q{wi:TI}(h:PI X tg e wi)(hw:∀Z G H R ρ M T,xF X.prog X.w X.K own G H Z ρ M->fi ρ M T->(∀ds ck M1 ac G1 H1,T ds ck M1->XM M G H M1 G1 H1->MR X.prog X.w X.K M1 G1 H1->ItM X.prog X.w X.K ac ds ck G1->R ac H1)->wi Z H R):MI X own tg e fi:=
 ⟨λJ s Z H R I ⟨G,ρ,M,T,st,e,k⟩=>h J s Z H R I (hw Z G H R ρ M T st e k)⟩
nonrec def Qu(di:an!):WI:=λρ M T=>Hi (di ρ) λds=>T ds F! M
def ItD.m{K:W.Frag}{ac:It}{G1:Hp}(h:wJ!):ItM P w K ac ds F! G1:=λi M' G' H' s1 s2 _ _=>h i G' H' s1 s2
def eL(h:DI X own tg e di):MI X own tg e (Qu di):=c4q h.ok λZ G H R ρ M T st e k=>by
 obtain⟨ds,e1,e2⟩:=Ef e;exact⟨G,ρ,ds,st.or,e1,λac G1 H1 x fh=>k ds _ M ac G1 H1 e2 (.ext x) pm! fh.m⟩
nonrec def Et(f:WE):WI:=λρ M T=>f ρ M λd M1=>match d with
 |.lst xs=>T xs F! M1
 |.fn p=>(match M1 p with|some (.lst xs)=>T xs (λM=>M p=some I!) M1|_=>False)
 |_=>False
def Ji(h:aa_):MI X own tg a (Et fa):=c4q (a7k h.ok) λZ G H R ρ M T st e k=>⟨G,ρ,M,_,st,e,λd M1 v G1 H1 r1 x1 m1 q1=>by
 cases d<;>first|exact r1.elim|skip
 .obtain⟨p,vs,rfl,q,rr⟩:=Cp q1;exact⟨p,rfl,⟨vs,x1.sub.seq q⟩,k _ _ M1 _ G1 H1 r1 x1 m1 (a0v q rr).m⟩
 .rename_i p;cases Kt q1;dsimp only at r1;split at r1
  .rename_i xs hM;obtain⟨_,vs,B,Y⟩:=m1.cell p _ hM;refine⟨p,rfl,⟨vs,kR!⟩,k _ _ M1 _ G1 H1 r1 x1 m1 λi M' G' H' s1 s2 m' ck=>?_⟩;obtain⟨_,f9,h3,h4⟩:=m'.cell p _ ck;have q':Jf X.K H' p f9:=Jf.of h3;refine⟨cH_,λhi=>⟨f9,q',by rw[<-Aq h4,hi];exact AY _⟩⟩;obtain⟨v,g1,g2⟩:=Kj h4 hd;refine⟨⟨f9,v,q',g1⟩,ed_⟩;obtain⟨e1,e2⟩:=hy;subst e1;have:=e2 f9 q';rw[g1]at this;cases this;exact⟨G',jZ!,g2⟩
  .exact r1.elim⟩
nonrec def Kf(bnd:ae_)(ck:cP!)(q:WS):List D->WS
 |[]=>λρ M R=>ck M/\R an_ M
 |d::ds=>λρ M R=>ck M/\Hi j0! λai=>q ai M λr M1=>match r with|.nx bh=>Kf bnd ck q ds bh M1 R|.rt d=>R aY! M1
nonrec def Fn(fi:WI)(bnd:ae_)(q:WS):WS:=λρ M R=>fi ρ M λds ck M1=>Kf bnd ck q ds ρ M1 R
nonrec def GDS(K:W.Frag)(own:j_)(g:TG)(bnd:ae_):Prop:=∀{P:Program} {w:World} {x:V} {d:D} {Z:St} {M0 M:Mh} {G0 F0 G H:Hp} {ρ ai:Ag} {Q:ij_},Rj P w K own M0 G0 F0 M G H Z ρ->Bl K G d x->bnd d ρ=some ai->(∀dr,Rj P w K own M0 G0 F0 M G H dr ai->Q dr H)->g x Z H Q
def Go{K:W.Frag}(i:Nat)(hi:bm_:=by decide):GDS K own eF! (Dk i):=by intro P w x d Z M0 M G0 F0 G H ρ ai Q sr r e k;cases e;exact k _ (sr.set hi r)
nonrec def a9f(i j:Nat):D->Ag->Option Ag:=λd ρ=>match d with|.tup [x,y]=>some ((ρ.set i (some x)).set j (some y))|_=>none
def b7c{K:W.Frag}(i j:Nat)(hi:bm_:=by decide)(hj:j∉own:=by decide):GDS K own wI_ (a9f i j):=by
 intro P w x d Z M0 M G0 F0 G H ρ ai Q sr r e k;unfold a9f at e;show"!5"
 .cases e;show"!]";show"!6";exact⟨p,[v1,v2],rfl,Df sr.st.or.sub q,rfl,v1,[v2],rfl,v2,[],rfl,rfl,k _ ((sr.set hi r1).set hj r2)⟩
 .cases e
def Rj.base{K:W.Frag}{M0 M1:Mh}{G0 F0 G1 H1:Hp}{Z:St}{ρ:Ag}(s:pU_):Rj P w K own M1 G1 hH_ M1 G1 H1 Z ρ:=
 ⟨s.st,⟨Cr.refl _,s.st.or.sub,dp!,λb o e _=>s.sr.ext.h b o e,dp!,λb h=>h⟩,λi hi p e=>s.sr.fr i hi p e⟩
def Rj.unx{K:W.Frag}{M0 M1 M':Mh}{G0 F0 G1 H1 G' H':Hp}{Z:St}{ρ:Ag}(s:pU_)(y:XM M1 G1 hH_ M' G' H'):XM M0 G0 F0 M' G' H':=by
 refine⟨s.x.g.trans y.g,y.sub,bm!,zP!,bm!,λb h=>y.cells b (s.x.cells b h)⟩
 .rcases y.new b h with z|z
  .exact s.x.new b z
  .exact pO!
 .refine y.keep b o ?_ ?_
  .unfold Lq;rw[zP_];exact s.x.keep b o e O
  .cases q:M1 b with
   |none=>rfl
   |some c=>
    rcases s.x.dom b b9_ with z|z
    .exact absurd O z
    .rw[e]at z;cases z
 .rcases y.dom b h with z|z
  .exact s.x.dom b z
  .exact pO!
def Rj.unbase{K:W.Frag}{M0 M1 M':Mh}{G0 F0 G1 H1 G' H':Hp}{Z hx:St}{ρ ρ':Ag}(s:pU_)(s':Rj P w K bi M1 G1 hH_ M' G' H' hx ρ'):Rj P w K bi M0 G0 F0 M' G' H' hx ρ':=
 ⟨s'.st,s.unx s'.x,λi hi p e=>s.noF (s'.fr i hi p e)⟩
def Jn{g:TG}{bnd:ae_}(hp:gc!)(hc:bf_)(az:pV!)(hg:mc_)(ng:GDS X.K own g bnd)(O:z0!)
  (hs:c6_:=by intro _;rfl):MS X own own sg_ (Fn fi bnd q1):=⟨λM0 G0 F0 J s Z H E I ⟨G,ρ,M,R,sr,e,k1,k2⟩=>by
 have cg:PSs X body (λE Z H=>∃A hb C,tmS X.prog X.w X.K A hb C own own q1 E Z H):=λJ s Z H E I ⟨A,hb,C,h⟩=>O.ok A hb C J s Z H E I h;refine b4m hp hc az.ok hg cg hs J s Z H E I ⟨G,ρ,M,_,sr.st,e,λds ck M1 ac G1 H1 r1 x1 m1 fh=>?_⟩;have yw:=sr.grow x1 m1;refine⟨λn m hx H'=>n<=f_/\m=f_ - n/\∃G' ρ' M',Rj X.prog X.w X.K own M1 G1 hH_ M' G' H' hx ρ'/\Kf bnd ck q1 nP! ρ' M' R,
  ⟨f_,CI _,rfl,G1,ρ,M1,yw.base,r1⟩,?_⟩
 rintro n m hx H' ⟨hn,rfl,G',ρ',M',dz,e3⟩;have il:ck M':=by
  cases hd:ds.drop n with
  |nil=>rw[hd]at e3;exact e3.1
  |cons _ _=>rw[hd]at e3;exact e3.1
 obtain⟨m7,m8⟩:=fh n M' G' H' dz.x.g dz.st.or.sub dz.st.mr il;by_cases am:n<f_
 .right;have hd:ds[n]?=some ds[n]:=by simp[am]
  rw[EV am]at e3;obtain⟨_,e3⟩:=e3;obtain⟨ai,e4,e3⟩:=Ef e3;obtain⟨go,yl⟩:=m7 _ hd;refine⟨go,λc8 H2=>∃G2 bh M2,Rj X.prog X.w X.K own M1 G1 hH_ M2 G2 H2 c8 bh/\Kf bnd ck q1 (ds.drop bD!) bh M2 R,λc8 H2 ⟨G2,bh,M2,B,h3⟩=>⟨f_ - bD!,r!,am,rfl,G2,bh,M2,B,h3⟩,j0_⟩;obtain⟨G2,x2,r2⟩:=yl v H2 hy;have yu:=dz.grow kT! (dz.st.mr.ext x2);exact ng yu r2 e4 λgi v7=>⟨M1,G1,Lq own Z H1,G2,ai,M',_,v7,e3,λs9 M4 G4 X0 H4 r4 SM=>⟨G4,s9,M4,SM,r4⟩,λd M4 v G4 H4 r4 x4 m4 q4=>k2 d M4 v G4 H4 r4 (yw.unx x4) m4 q4⟩
 .left;have ij:n=f_:=by omega
  refine ow!;rw[ij,HY]at e3;exact k1 ρ' M' G' hx H' e3.2 (yw.unbase dz)⟩
nonrec def nT(bnd:ae_)(ck:cP!)(ft:WT)(fe:WE)(ρ:Ag):List D->Mh->yW_->Prop
 |[],M,R=>ck M/\R [] M
 |d::ds,M,R=>ck M/\Hi j0! λai=>ft ai M λb M1=>if b then fe ai M1 λy M2=>nT bnd ck ft fe ρ ds M2 λys M3=>R (y::ys) M3 else nT bnd ck ft fe ρ ds M1 R
nonrec def Dx(nl:Nat)(ix:j_)(fi:WI)(bnd:ae_)(ft:WT)(fe:WE):WE:=λρ M R=>fi ρ M λds ck M1=>f_<=big/\nT bnd ck ft fe nV_ ds M1 λys M2=>R aU! M2
def a9b{K:W.Frag}{ac:It}{ds:b_}{ck:cP!}{M1:Mh}{G1 H1:Hp}{g:TG}{bnd:ae_}{fe:WE}{j5:Ag}{rm:St}{Fin:cX_}{R:pl!}
  (O:f_<=big)(fh:ItM P w K ac ds ck G1)(hg:GD K g bnd)(er:xF P w K [] G1 H1 rm j5 M1)(e:nT bnd ck ft fe j5 ds M1 R)(k:∀ji ys M' G' H',R ji M'->XM M1 G1 H1 M' G' H'->MR P w K M' G' H'->Bc K G' ji ys->ji.length<=f_->Fin ys H'):
  a9i ac g (tmT P w K [] ft) (tmE P w K [] fe) Fin rm H1:=by
 refine⟨λi m ys hx H'=>i<=f_/\m=f_ - i/\∃G' M' ws,XM M1 G1 H1 M' G' H'/\xF P w K [] G' H' hx j5 M'/\Bc K G' ws ys/\m3_<=i/\nT bnd ck ft fe j5 (ds.drop i) M' λr M2=>R (ws++r) M2,
  ⟨f_,CI _,rfl,G1,M1,[],.refl er.or.sub,er,Bc.nil,CI _,e⟩,?_⟩
 rintro i m ys hx H' ⟨hi,rfl,G',M',ws,x,cf,ao,hw,e2⟩;refine wJ_;have il:ck M':=by
  cases hd:ds.drop i with
  |nil=>rw[hd]at e2;exact e2.1
  |cons _ _=>rw[hd]at e2;exact e2.1
 obtain⟨m7,m8⟩:=fh i M' G' H' x.g cf.or.sub cf.mr il;by_cases am:i<f_
 .right;have hd:ds[i]?=some ds[i]:=by simp[am]
  rw[EV am]at e2;obtain⟨_,e2⟩:=e2;obtain⟨ai,e1,e2⟩:=Ef e2;obtain⟨go,yl⟩:=m7 _ hd;refine⟨go,j0_⟩;obtain⟨G2,x2,r2⟩:=yl v H2 hy;have cb:=cf.grow kT! (cf.mr.ext x2);have SN:XM M1 G1 H1 M' G2 H2:=x.trans kT! cf.mr;refine hg cb.or r2 e1 λdr mz rq=>⟨G2,ai,M',_,z6_,e2,λb M3 G3 H3 r3 x3 m3=>?_⟩;have j6:=(show xF P w K [] G2 H2 dr ai M' from z6_).grow x3 m3;have lg:=SN.trans x3 cb.mr;cases b with
  |true=>
   refine Wi ⟨G3,ai,M3,_,j6,r3,λy M4 u G4 H4 r4 x4 m4 q4=>⟨f_ - a2!,r!,am,rfl,G4,M4,ws++[y],lg.trans x4 m3,⟨(j6.grow x4 m4).or.le rq,m4,am_⟩,?_,?_,?_⟩⟩
   .exact Fm wK_ (Bc.cons q4 Bc.nil)
   .rw[AT,CG];omega
   .have e5:(λr M2=>R (ws++[y]++r) M2)=λr M2=>R (ws++y::r) M2:=by
     funext r M2;rw[CQ];rfl
    rw[e5];exact r4
  |false=>
   exact Wj ⟨f_ - a2!,r!,am,rfl,G3,M3,ws,lg,⟨j6.or.le rq,m3,am_⟩,(oo_).mono x3.g,r!,r3⟩
 .left;have ij:i=f_:=by omega
  refine ow!;rw[ij,HY]at e2;have this:R (ws++[]) M':=e2.2;rw[BL]at this;exact k ws ys M' G' H' this x cf.mr ao a!
def Tc{scope:Scope}{NL:k!}{ix:j_}{g:TG}{bnd:ae_}{fe:WE}
  (ce:df!)(b9:df_)(j4:∀y∈ca!,y.2=.local->scope.names.lookup y.1=some .local)
  (ic:gO!)(cap:de_)(m9:jL_)(calm:bf_)(az:pV!)
  (hg:gO_)(ng:oq!)(hi:z8!)(he:z8_)
  (hs:c6_:=by intro _;rfl):
  ME X own gM_ z9!:=
 Ij wM! λZ G H Q ρ M R st e k=>⟨G,ρ,M,_,st,e,λds ck M1 ac G1 H1 r1 x1 m1 fh=>by
  obtain⟨O,r1⟩:=r1;have ii:=st.grow x1 m1;refine a9b O fh ng z9_ r1 λji ys M' G' H' r x m q _ p hp=>?_;exact k _ M' _ _ _ r ((x1.trans x m1).trans (.ext g5_) m) (m.ext g5_) (Ew or! q)⟩
def a0d:iJ X [] (tmT X.prog X.w X.K [] λρ M R=>R true M):=λJ s Z H Q I ⟨G,ρ,M,R,st,e,k⟩=>zI J s Z H Q I (k true M G H e pm_ st.mr)
def fX(h:MT X [] c ft):iJ X [c] z7_:=zH h.ok
abbrev WF:=List D->Mh->yW!->Prop
nonrec def spM(P:Program)(w:World)(K:W.Frag)(n:Nat)(g:WF):Sp:=λvs H Q _=>by!=n/\∃G ds M R,Cr G H/\MR P w K M G H/\Bc K G ds vs/\g ds M R/\∀d M' v G' H',R d M'->XM M G H M' G' H'->MR P w K M' G' H'->Bl K G' d v->Q v H'
nonrec def Yz(P:Program)(w:World)(K:W.Frag)(mg:C!)(base:Heap)(k:Nat)(x:Str)(ps:k!)(g:WF):Prop:=
 ∃σ fd,Km P w K mg base iL k σ fd ps pW!/\Js K fd ps []/\mg x=some bP_/\W.keepIn K bP_=true
nonrec def gl(g:W_):WF:=λds M R=>Hi (g ds) λd=>R d M
nonrec def Ba(n:Nat)(g:WF)(fs:WA):WE:=λρ M R=>fs ρ M λds M1=>f_=n/\g ds M1 R
def Bm{k:Nat}{ps:k!}{g:WF}{x:Str}(F:Yz X.prog X.w X.K X.mg X.base k x ps g)(hr:b6!)(hg:R_)(ha:hD!)
  (be:F_:=by decide)(he:al_:=by rfl)(av:aT_:=by rfl):
  ME X own bi! (Ba ps.length g fs):=by
 obtain⟨σ,fd,B,Y,h3,h4⟩:=F;refine Ij (a7p B hr hg h3 h4 Y .nil lR ha.ok be he av) λZ G H Q ρ M R st e' k=>⟨G,ρ,M,_,st,e',λds M1 vs G1 H1 r1 x1 m1 q1=>?_⟩;show spM X.prog X.w X.K ps.length g (vs++[]) H1 Q E0;rw[BL];exact⟨by rw[<-Aq q1];exact r1.1,G1,ds,M1,R,x1.sub,m1,q1,r1.2,y2_⟩
nonrec def Hv(P:Program)(w:World)(K:W.Frag)(mg:C!)(base:Heap)(k:Nat)(C:Addr)(m:Str)(ps:k!)(g:WF):Prop:=
 Cls K C/\∃σ fd,b1y K C m σ/\Km P w K mg base iL k σ fd ps pW!/\Js K fd ps []
nonrec def Gi(C:Addr)(m:Str)(M:Mh)(d:D):Prop:=match d with
 |.fn p=>(match M p with|some (.obj C' fs)=>C'=C/\fs.lookup m=none|_=>False)
 |_=>False
def a0w{K:W.Frag}{M:Mh}{G H:Hp}(mr:bT_)(r:ce_)(h:k7_):∃p dx vs,d=.fn p/\v=.ref p/\H p=some yS_/\vs.lookup m=none:=by
 unfold Gi at h;split at h
 .show"#H";split at h
  .rename_i C' fs hM;obtain⟨rfl,hl⟩:=h;obtain⟨_,dx,vs,B,Y⟩:=mr.cell p _ hM;exact⟨p,dx,vs,rfl,rfl,B,a1g Y hl⟩
  .exact h.elim
 .exact h.elim
nonrec def Cf(C:Addr)(m:Str)(n:Nat)(g:WF)(fo:WE)(fs:WA):WE:=λρ M R=>fo ρ M λd M1=>Gi C m M1 d/\fs ρ M1 λds M2=>f_+1=n/\g d4_ M2 R
def Dr{k:Nat}{ps:k!}{g:WF}{ag:Pos}{pl:dR_}(F:Aa_)(hr:b6!)(ho:cn_)(ha:hD!)
  (bz:al_:=by rfl)(av:aT_:=by rfl)
  (ht:eval iW! X.env=(do
   let ov <-eval o X.env
   standAt gs_
   let(f,first) <-holding [ov] gt!
   callWith pos f first ty_ eT!):=by rfl):ME X own iW! (Cf C m ps.length g fo fs):=by
 obtain⟨cl,σ,fd,B,Y,h3⟩:=F;refine Ij (c0x (pl:=pl) ho.ok cl B Y hr h3 .nil lR ha.ok bz av ht) λZ G H Q ρ M R st e' k=>Ac!;show"!q";refine⟨p,dx,vs,rfl,hH,hl,G1,ρ,M1,_,kH!,r1,λds M2 us G2 H2 r2 x2 m2 q2=>?_⟩;show spM X.prog X.w X.K ps.length g (.ref p::(us++[])) H2 Q E0;rw[BL];exact⟨by rw[AJ,<-Aq q2];exact r2.1,G2,.fn p::ds,M2,R,x2.sub,m2,Bc.cons Bl.fn q2,r2.2,λd M3 v G3 H3 r3 x3 m3 q3=>k d M3 v G3 H3 r3 pF_ m3 q3⟩
def a0e{k:Nat}{ps:k!}{g:WF}{ag:Pos}{pl:dR_}(F:Aa_)(hr:b6!)(ho:cn_)
  (ht:eval iW_ X.env=(do
   let ov <-eval o X.env
   standAt gs_
   let(f,first) <-holding [ov] gt!
   callWith pos f first mX! eT!):=by rfl):ME X own iW_ (Cf C m ps.length g fo Al):=by
 obtain⟨cl,σ,fd,B,Y,h3⟩:=F;refine Ij (b4x (pl:=pl) ho.ok cl B Y hr h3 .nil lR ht) λZ G H Q ρ M R st e' k=>Ac!;show"!q";refine⟨p,dx,vs,rfl,hH,hl,?_⟩;show spM X.prog X.w X.K ps.length g gD_ H1 Q E0;have r2:[].length+1=S_/\g (D.fn p::[]) M1 R:=r1;exact⟨r2.1,G1,[.fn p],M1,R,x1.sub,m1,Bc.cons Bl.fn Bc.nil,r2.2,λd M3 v G3 H3 r3 x3 m3 q3=>k d M3 v G3 H3 r3 (x1.trans x3 m1) m3 q3⟩
nonrec def b1x(P:Program)(w:World)(K:W.Frag)(mg:C!)(base:Heap)(k:Nat)(x:Str)(C:Addr)(ps:k!)(g:WF):Prop:=
 mg x=some av_/\∃σ fd,Mk K C σ/\Km P w K mg base iL k σ fd ps pW!/\Js K fd ps []
nonrec def Oi(C:Addr)(n:Nat)(g:WF)(fs:WA):WE:=λρ M R=>fs ρ M λds M1=>f_+1=n/\∀p,M1 p=none->g (.fn p::ds) (Cb M1 p k8!) λd M2=>d=.non/\R y! M2
def b6b{K:W.Frag}{M1:Mh}{G1 H1:Hp}(sub:Cr G1 H1)(m1:yU!)(L:H1 x=none)(jn:H1 dx=none)(ne:dx≠x):
  XM M1 G1 H1 (Cb M1 x k8!) G1 mV_/\MR P w K (Cb M1 x k8!) G1 mV_:=by
 have ah:∀b o,H1 b=some o->upd tu_ x mV! b=some o:=λb o e=>by rw[Bn (Ea e L),Bn (Ea e jn)];exact e
 refine⟨⟨Cr.refl G1,λb o e=>ah b o (sub b o e),dp!,λb o e _=>ah b o e,bm!,bm!⟩,⟨λb q e=>?_⟩⟩
 .by_cases O:b=x
  .subst O;exact .inr L
  .rw[bq!]at h;exact .inl h
 .by_cases O:b=x
  .subst O;rw[mup_same];simp
  .rw[bq!];exact h
 .by_cases O:b=x
  .show"#/";exact⟨sub.free L,dx,[],Db,.nil⟩
  .rw[bq!]at e;obtain⟨B,Y⟩:=m1.cell b q e;refine⟨B,Y.mono (Cr.refl G1) ?_⟩;cases hq:H1 b with
   |none=>exact absurd hq Y.has
   |some o=>exact ah b o hq
def c1p{k:Nat}{x:Str}{ps:k!}{g:WF}(F:Ae!)(hr:gv_)(hg:R_)(ha:hD!)
  (be:F_:=by decide)(he:al_:=by rfl)(av:aT_:=by rfl):ME X own bi! (Oi C ps.length g fs):=by
 obtain⟨hm,σ,fd,B,Y,h3⟩:=F;refine Ij (c0y B Y hr hg hm h3 .nil lR ha.ok be he av) λZ G H Q ρ M R st e' k=>⟨G,ρ,M,_,st,e',λds M1 vs G1 H1 r1 x1 m1 q1=>λy dx hy jn ne=>?_⟩;obtain⟨z1,z2⟩:=b6b (C:=C) x1.sub m1 hy jn ne;rw[BL];exact⟨by rw[AJ,<-Aq q1];exact r1.1,G1,.fn y::ds,_,_,z1.sub,z2,Bc.cons Bl.fn q1,r1.2 y (m1.nocell hy),λd M2 v G2 H2 r2 x2 m2 q2=>by
  obtain⟨rfl,r2⟩:=r2;exact⟨Ip q2,k _ M2 _ G2 H2 r2 ((x1.trans z1 m1).trans x2 z2) m2 Bl.fn⟩⟩
def Vx{k:Nat}{x:Str}{ps:k!}{g:WF}(F:Ae!)(hr:gv_)(hg:R_)
  (be:F_:=by decide):ME X own tG! (Oi C ps.length g Al):=by
 obtain⟨hm,σ,fd,B,Y,h3⟩:=F;refine Ij (b4y B Y hr hg hm h3 .nil lR be) λZ G H Q ρ M R st e' k=>λy dx hy jn ne=>?_;obtain⟨z1,z2⟩:=b6b (C:=C) st.or.sub st.mr hy jn ne;have r1:[].length+1=S_/\∀p,M p=none->g (D.fn p::[]) (Cb M p k8!) λd M2=>d=.non/\R y! M2:=e';exact⟨r1.1,G,[.fn y],_,_,z1.sub,z2,Bc.cons Bl.fn Bc.nil,r1.2 y (st.mr.nocell hy),λd M2 v G2 H2 r2 x2 m2 q2=>by
  obtain⟨rfl,r2⟩:=r2;exact⟨Ip q2,k _ M2 _ G2 H2 r2 (z1.trans x2 z2) m2 Bl.fn⟩⟩
nonrec def Fj(N:k!)(n:Nat)(q:WS):WF:=λds M R=>f_=n/\q ha_ M λr M'=>match r with|.rt d=>R d M'|.nx _=>R .non M'
end
def jG{K:W.Frag}{mg:C!}{st:Stmt}{ps:k!}{k:Nat}{h2:j_}{q:WS}
  (F:w2_)(S:dZ!)
  (O:∀(ae:Value) (A:Around) (outer:as!) (s:Shared) (H:Hp) (E:XK),Ax k ox!->MSs (ox_).nox [] h2 bN! q):
  Km P w K mg base iL Q! σ fd ps (spM P w K ps.length k9!):=by
 refine w3!;obtain⟨hl,G,ds,M,R,sub,m,r,e,kk⟩:=h;refine⟨_,(w3_).ok M G H,?_⟩;have er:=xT (N:=N) sub r;exact⟨G,_,M,_,⟨⟨er,m,am_⟩,.refl sub,am_⟩,e.2,λρ' M' G' hx H' r sr=>kk _ M' _ G' H' r sr.x sr.st.mr Bl.non,λd M' v G' H' r x m q=>kk d M' v G' H' r x m q⟩
section
variable{P:Program}{w:World}{A:Around}{E:Value->Shared->Prop}{s:Shared}{d it:Addr}{es:List DictEntry}{ep i:Nat}
def fJ.at{h h':Heap}(D:fJ h d es ep)(e:∀o,h.get? d=some o->h'.get? d=some o):fJ h' d es ep:=let⟨o,ho,r⟩:=D;⟨o,e o ho,r⟩
def b6s{Q:p_}(hd:Ah!)(D:pY_)
  (h:Q c5_ {s with heap:=s.heap.push {cls:=.type "dict_keyiterator",data:=.fields #[.ref d,.int 0 0,.int es.length 0,.int ep 0]}}):wpAny L! A (pyIter (.ref d)) Q E s:=by
 have hT:=D.typeIs;obtain⟨o,ho,hc,NN⟩:=id D;refine wpAny_pyIter_slot hT PySem.F.slot_dict_iter (BX PySem.F.slot_dict_iter hT PySem.F.entry_dict_iter ?_ (PySem.F.args_dict_iter_1 _));unfold Builtin.«dict.__iter__» Builtin.Dict.dictSlotNone;refine AA py!;show wpAny L! A.in1 (Builtin.Dict.showsAll d>>=_) _ _ s;unfold Builtin.Dict.showsAll;rw[AI (by rw[hd];exact BC)];refine AA (AC (AA (EL ho NN (AA (EN ho NN (AA (DM (AC ⟨_,rfl,"dict_keyiterator",_,oL_,DK.lookup,?_⟩))))))));simpa[rawInt]using h
def zV{Q:fp!}{e:DictEntry}(az:Ai!)(D:pY_)(L:es[i]?=some e)
  (h:∀h',h'.IsKeyIter it d a2! es.length ep->Heap.SameBut it s.heap h'->Q (some e.key) {s with heap:=h'}):wpAny L! A io_ Q E s:=by
 show"!^";obtain⟨am,l8⟩:=BA.mp L;show"#5"
 first|refine AA (FJ hT la!)|refine AA (GK hT la!)
 show"![";refine AA Am!;rw[Z!];refine AC ?_;simp only[Am_,BW,FA,ER,L];refine AA ?_
 first|refine AA (FJ hT An!)|refine AA (GK hT An!)
 show wpAny L! A.in1 (setField b0_ 1 An_>>=_) _ _ s;have l9:(s.heap.update it Ao!).IsKeyIter it d a2! es.length ep:=
  ⟨_,FY _ ho (Obj.isFreed_of_fields (HV hd _)),(xz_).trans hc,by rw[HV hd];simp[rawInt]⟩
 refine AA (JR ho hd c_ (AA (CC (AA (JF (s:={s with heap:=s.heap.update it Ao!}) l9.typeIs ?_)))));exact AC (AC ⟨_,rfl,AC (h _ l9 eg_)⟩)
def a8v{Q:fp!}(hh:eW!)(az:Ai!)(D:pY_)(L:af!<=i)
  (h:∀h',Heap.ExtBut it s.heap h'->Q none {s with heap:=h'}):wpAny L! A io_ Q E s:=by
 show"!^";show"#5"
 first|refine AA (FJ hT la!)|refine AA (GK hT la!)
 show"![";refine AA Am!;rw[Z!];refine AC ?_;simp only[Am_,BW,FA,ER,CL L];refine AA ?_
 first|refine AA (FJ hT ac_)|refine AA (GK hT ac_)
 show wpAny L! A.in1 (setField b0_ 0 .none>>=_) _ _ s;refine AA (JR ho hd c_ ?_);show wpAny L! A.in1 xB_ _ _ _;refine AA ?_;simp only[newExc,newTuple];refine AA (DM (AA (m:=xC!) (wpAny_of_eq (a:=cT!) xC_ (DM ?_ ki_))) ki_);simp only[raiseNew];refine AA xD!;rw[xD_];refine AA xE!;refine AA (wpAny_isInstance (T:=xU!) (b:=true) (show Shared.TypeIs _ _ _ from oL_) isSubtype_stop ?_);exact AC (h _ xE_)
def a9l(hh:eW!)(I d:Addr)(b7:d≠I)(es:aa!)(ep:Nat):Walks P w A I [I,d] [I] es.length pZ! (λi h=>h.IsKeyIter I d i es.length ep/\fJ h d es ep) where
 sub:=λb O=>by simp at O;simp[O]
 frame:=λ_ _ _ st hk=>⟨st.1.at λo e=>hk I c_ o e,st.2.at λo e=>hk d c_ o e⟩
 item:=λi s Q E hi st hQ=>by
  refine zV st.1 st.2 (BB hi) λh' l9 bu=>?_;exact hQ _ h' s.toks ⟨_,BB hi,rfl⟩ ⟨l9,st.2.at λo e=>(bu.2 d b7).trans e⟩ λb o O e=>(bu.2 b ge!).trans e
 done:=λs Q E st hQ=>a8v hh st.1 st.2 x_ λh' cj=>hQ h' s.toks λb o O e=>cj b o ge! e
 self:=λ_ _ _ _ st hQ=>wpAny_pyIter_keyiter st.1 hQ
def c9c{es au:aa!}{bd:Nat}(D:fJ h d es ep)(D':fJ h d au bd):es=au/\ep=bd:=by
 obtain⟨o,B,_,Y⟩:=D;obtain⟨o',h3,_,h4⟩:=D';rw[B]at h3;cases h3;rw[Y]at h4;injection h4 with h5 h6
 exact⟨by simpa using congrArg Array.toList h5,h6⟩
nonrec def Ite(d:Addr)(ep n:Nat):It:=⟨λi H=>∃es e x,H d=some dz!/\af!=n/\es[i]?=some e/\Dm x e.key,λi H x H'=>H'=H/\∀es,H d=some dz!->∃e,es[i]?=some e/\Dm x e.key,λi H=>∃es,H d=some dz!/\af!=n/\n<=i⟩
def wP{P:Program}{w:World}{H:Hp}{es:aa!}(hok:bs_)(e:H d=some dz!):fJ h d es ep:=by obtain⟨⟨h3,_⟩,_⟩:=(show Jz P w H h d dz! from hok d _ e);exact h3
def b2s{P:Program}{w:World}{K:W.Frag}{tg:Expr}{n:Nat}(d it:Addr):oB P w K tg (Ite d ep n) [it] it (λi h=>h.IsKeyIter it d i n ep) where
 mem:=by simp
 obj:=λi h st b O=>by
  have e:b=it:=by simpa using O
  subst e;show"!V"
 keep:=λi h h' st k=>st.at λo e=>k it c_ o e
 item:=by
  intro X hP hw hK hc i J s Z H E I hf st hg;subst hP hw hK;obtain⟨es,e,x,hH,hl,L,rx⟩:=hg;have D:=wP I.hok hH;obtain⟨f0,f1,f2,f3,f4,f5⟩:=hf it c_;subst hl;refine zV st D L λh' h1 sb=>?_;have I1:Inv X J Z H {s with heap:=h'}:=I.turned (t':=s.toks) mf_ f0 f1 f3 f4 f5;obtain⟨o,eo,c,dd⟩:=id h1;exact⟨_,rfl,a8o (s:=ir_) eo c dd c! ⟨x,H,I1,rx,⟨rfl,λau hy=>by
   obtain⟨rfl,_⟩:=c9c D (wP I.hok hy);exact⟨e,L,rx⟩⟩,h1,λb O=>(is_).1⟩⟩
 done:=by
  show"!/";obtain⟨es,hH,hl,L⟩:=hg;show"!2";subst hl;exact a8v bg! st (wP I.hok hH) L λh' eb=>it!
 self:=λ_ _ _ _ _ st h=>wpAny_pyIter_keyiter st h
end
section
variable{X:Cx}{own:List Nat}{a tg:Expr}{fa:WE}
nonrec def xL(f:WE):WI:=λρ M T=>f ρ M λd M1=>Hi hE! λq=>T la_ (λM=>M q.1=some pC!) M1
def c7n(h:aa_):MI X own tg a (xL fa):=⟨by
 show"!m";refine h.run I st e λd M1 v G1 H1 u s1 r1 x1 m1 q1 I1 rx=>?_;obtain⟨⟨p,kvs,ep⟩,e1,r2⟩:=Ef r1;obtain⟨rfl,rfl,hM⟩:=Ft q1 e1;cases rx;obtain⟨es,B,Y,h3,h4,h5,h6⟩:=Jb I1 m1 x1.sub hM;have ak:aB!=af!:=FI Y.1;refine b6s h4 h3 ⟨z_,[z_],_,Ite p ep af!,H1,rfl,iu!,b2s p _,dO!,bg_,k _ _ M1 _ G1 H1 r2 x1 m1 λi M' G' H' s2 s3 m' ck=>?_⟩
 .have e:b=z_:=by simpa using O
  show"!R"
 .obtain⟨_,au,g1,g2⟩:=m'.cell p _ ck;have X1:aB!=au.length:=FI g2.1;refine⟨cH_,λhi=>⟨au,g1,r!,by rw[hi,AU];show af!<=aB!;omega⟩⟩;rw[BS]at hd;obtain⟨q,hq,rfl⟩:=AO.mp hd;obtain⟨e',cj,⟨v,r1,rv⟩,_,_⟩:=Ms g2.1 hq;refine⟨⟨au,e',v,g1,r!,cj,rv⟩,ed_⟩;obtain⟨z1,z2⟩:=hy;subst z1;obtain⟨e2,pv,rx⟩:=z2 au g1;rw[cj]at pv;cases pv;rw[rx.inj rv];exact⟨G',Ed.refl s3,r1⟩⟩
end
section
variable{X:Cx}{J:List (Addr×Obj)}{Z:St}{H:Hp}{s:Shared}
def Ot{Y:Heap}{t':Nat}{wr:ar_}(I:d!)(hf:∀b∈wr,Qk X J H b)(kp:∀c o,c∉wr->s.heap.get? c=some o->Y.get? c=some o):Inv X J Z H {s with heap:=Y,toks:=t'}:=by
 refine I.step (g':=s.gens) (d':=s.drawn) (t':=t') (ch:=wr) fq! oQ! oR! h5_ oS! h6! h6_ oS_ h7! hj! I.bare
 .obtain⟨f0,f1,f2,f3,f4,f5⟩:=hf c hc;exact⟨f3,f1,f4,f5⟩
 .obtain⟨o,es,ep,ho,r⟩:=hm;exact⟨o,es,ep,kp _ o (λz=>(hf _ z).2.1 rfl) ho,r⟩
 .refine(oT!).stay oT_ oU! λ_ _ e'=>e';have hn:=(hf d hm).1;rcases hd with rfl|hd
  .rw[hn]at e;cases e
  .rw[hn]at hd;cases hd
def b2t{s0:Shared}{xs:k_}{us:h_}(I:Inv X J Z H s0)(I1:d!)(hT:Ap_<=T)(eT:s.heap.IsTuple T cE_)(rv:fT!)(hz:i_<=sizeLine):Inv X J Z (upd H T bc_) s:=by
 have sv:H T=none:=I.hok.fresh hT;have ne:∀c o,H c=some o->c≠T:=λc o e=>Ea e sv;refine Inv.step (g':=s.gens) (d':=s.drawn) (t':=s.toks) (h':=s.heap) (ch:=[T]) I1 fq! x4_ x5! x5_ x6!
  (x6_) x7! x7_ nA_ hj! I1.bare
 .have e:c=T:=by simpa using hc
  subst e;obtain⟨_,g1,_,g3,g4,g5⟩:=I.fpOk hT sv;exact⟨g3,g1,g4,g5⟩
 .rw[nB_];exact n
 .by_cases O:c=T
  .show"!|";exact⟨hz,us,rv,eT⟩
  .rw[Bn O]at e;exact(x8!).stay nC! x9! λd xs q=>by rw[oV_];exact q
end
nonrec def Itn(x:Str):It:=⟨xl!,λi H v H'=>∃T c,v=.ref T/\H T=none/\x.cps[i]?=some c/\H'=upd H T (.tup [be!,gC!]),xl_⟩
def a3a{K:W.Frag}{fm:bu_}{n1:Nat}{tp:Pos}{x:Str}{St':dL_}(kg:e≠it)(hd:xo_)
  (D:∀A':Around,oH!=none->Draws P w A' it [it] x.cps.size Aq! St'):
  oB P w K ds! (Itn x) [e,it] e (λi h=>i<=fn_/\Ar_/\St' i h) where
 mem:=by simp
 obj:=λi h st b O=>by
  simp only[AE,BO,DN]at O;obtain⟨_,⟨ah,s1⟩,s2⟩:=st;rcases O with rfl|rfl
  .exact As!
  .exact hd i h s2
 keep:=λi h h' st k=>by
  have W:=WalksT.enumerateD (A:=callerA) (D callerA.in1 rfl) e kg p0_ c_;exact⟨st.1,W.frame i h h' st.2 λb O o q=>k b ge! o q⟩
 item:=by
  intro X hP hw hK hc i J s Z H E I hf st hg;subst hP hw hK;have hh:=I.ok.hd hc;have W:=WalksT.enumerateD (A:=X.A) As_ e kg p0_ c_;refine W.item i s _ _ hg st.2 λT xu h' tk hP hT SO hm kp=>⟨_,rfl,W.go fm n1 tp i T _ _ _ hm λY bg NO=>?_⟩;obtain⟨t,y,⟨c,u,jz,rfl⟩,rfl⟩:=hP;have SQ:∀b∈[e,it],Qk X J H b:=hf;have I1:Inv X J Z H {s with heap:=Y,toks:=tk}:=Ot I SQ λc o hc eo=>NO c o hc (kp c o hc eo);have NP:T∉[e,it]:=W.apart i T _ hm;have eT:Y.IsTuple T #[.int i t,.str am! u]:=by
   obtain⟨o,eo,r⟩:=SO;exact⟨o,NO T o NP eo,r⟩
  have I2:=b2t (us:=[.int i t,.str am! u]) (xs:=[be!,gC!]) I I1 hT eT (.cons nw_ (.cons oH_ .nil)) At_;refine⟨.ref T,_,I2,rfl,⟨T,c,rfl,I.hok.fresh hT,jz,rfl⟩,⟨hg,bg⟩,bg_⟩;rw[Bn (λz:b=T=>NP (by rw[<-z];exact O))];exact(is_).1
 done:=by
  show"!/";have hh:=I.ok.hd hc;have W:=WalksT.enumerateD (A:=X.A) As_ e kg p0_ c_;show"#I";exact W.done s _ _ st.2 λh' tk kp=>⟨rfl,Ot I hf kp⟩
 self:=λA i s Q E st h=>by
  obtain⟨_,⟨ah,s1⟩,_⟩:=st;exact IF s1 h
section
variable{X:Cx}{own:List Nat}{a:Expr}{fm:List Expr}{n1:Nat}{tp p pos:Pos}{fa:Ag->Option D}
nonrec def wB(f:d_):Ag->Option aG_:=λρ=>(ah!).bind λd=>match d with|.str x=>some (x.cps.toList.zipIdx.map λq=>.tup Au!)|_=>none
def b7v(hg:Au_)(hm:Av!)(h:R!)(hs:p1_:=by rfl)(av:p2!:=by rfl):
  DI X own ds! Av_ (wB fa):=⟨by
 intro J s Z H R I ⟨G,ρ,ds,er,e,k⟩;obtain⟨d,e1,e2⟩:=AB.mp e;cases d<;>first|(cases e2;done)|skip
 rename_i x;cases e2;refine Call_ (Rc I hg hm boot_enumerate (CU (Gn (Gs h.ok Ku hs pos J s Z H (λvs H1=>∃v G1,vs=[v]/\Ed G H G1 H1/\Bl X.K G1 dI! v) I ⟨G,ρ,_,er,e1,λv G1 H1 x1 r1=>⟨v,G1,rfl,x1,r1⟩⟩) λus s1 ⟨vs,H1,I1,r1,v,G1,q1,x1,rr⟩=>?_) hs av));subst q1;cases Dj rr;obtain⟨u,rfl,t,rfl⟩:=Uz r1;refine call_enumerate_str λh' he az hsz hk=>?_;refine IF he ?_;have I2:Inv X J Z H1 {s1 with heap:=h',toks:=s1.toks}:=I1.kept (t':=s1.toks) hk;have jl:∀b∈[z_+1,z_],z_<=b:=λb O=>by
  simp only[AE,BO,DN]at O;rcases O with rfl|rfl<;>omega
 have fin:∀{St':dL_},St' 0 h'->(∀i h,St' i h->∃o,h.get? z_=some o/\∀v,o.data≠.cell v)->(∀A':Around,oH!=none->Draws X.prog X.w A' s1.heap.objs.size [z_] x.cps.size Aq! St')->
   PIE X J Z ds! R (.ref (z_+1)) {s1 with heap:=h'}:=λ{St'} h0 hd D=>by
  refine⟨_,_,_,Itn x,H1,rfl,I2,a3a Aw! hd D,⟨CI _,⟨_,he⟩,h0⟩,Aw_,k _ G1 H1 x1 ?_⟩;intro i G' H' g1 g2;refine⟨cH_,λhi=>by rw[AU,GC,CK]at hi;exact HC hi.symm⟩;rw[BS,IS]at hd;obtain⟨q,hq,rfl⟩:=AO.mp hd;obtain⟨c,hc,rfl⟩:=AO.mp hq;rw[ET]at hc;refine xo!;obtain⟨T,c',rfl,hT,a8,rfl⟩:=hy;rw[hc]at a8;cases a8;refine⟨_,Ed.laid g2 hT,Jm (g2.free hT) (Bc.cons ?_ (Bc.cons Bl.str Bc.nil))⟩;rw[II];exact Bl.int
 cases ha:x.cps.all (·<128)
 .have l9:h'.IsStrIter s1.heap.objs.size "str_iterator" x t 0:=by simpa[strIterType,ha]using az
  exact fin (St':=λi h=>h.IsStrIter s1.heap.objs.size "str_iterator" x t i) l9 Ax_ λA' hh=>Draws.strWide hh _ x t
 .have l9:h'.IsStrIter s1.heap.objs.size "str_ascii_iterator" x t 0:=by simpa[strIterType,ha]using az
  exact fin (St':=λi h=>h.IsStrIter s1.heap.objs.size "str_ascii_iterator" x t i) l9 Ax_ λA' hh=>Draws.strAscii hh _ x t⟩
nonrec def tV(a:Int)(n:Nat):List D:=(on!).map λi=>.int (a+(i:Nat))
nonrec def vZ(f g:d_):Ag->Option aG_:=λρ=>(ah!).bind λx=>(g ρ).bind λy=>match x,y with|.int i,.int j=>if -1000<=i/\i<=100000/\-1000<=j/\j<=100000 then some (tV i (j - i).toNat)else none|_,_=>none
end
end DL
namespace HT
open PySem PySem.Spec PyProof.Rows
def b3q(A:Around)(s:Shared)(a:Int)(t:Tok)(c:Int)(u:Tok)(prog:Program)(w:World)(E:p_)(Q:p_)(h:Q (.bool (decide (c<a))) s):
  wpAny n_ A (richCompare .Gt gA! m3!) Q E s:=
 (PyProof.Rows.gt_int h:wpAny n_ A (compareOp .Gt gA! m3!) Q E s)
section
open PySem.SeqAt
open PySem.AutoSeq1 (wpAny_loadPart')
open PySem.MeetsSeq PySem.MeetsSeq2 PySem.MeetsSeq3
def oJ(l b:Addr)(items jo:ab!)(n n2:Nat)(dd lf:a6_)(sl jd:b7_)(ns ms:D!)(hi:Ay_)(hj:Az!):
  Meets (Builtin.«tuple.__gt__» ⟨[.ref l,.ref b],[]⟩)
   (λ_ R s=>s.heap.get? l=some {cls:=.type "tuple",dict:=dd,data:=.seq items n,slots:=sl}/\s.heap.get? b=some {cls:=.type "tuple",dict:=lf,data:=.seq jo n2,slots:=jd}/\
    R (.ok (.ret p3!)) s):=
 .of_wp λprog w A R s h=>by
  obtain⟨hp,g,d,tk,os⟩:=s;obtain⟨hl,O,h⟩:=h;have f2:=AutoSeq1.sub_tuple_tuple;have z1:da!=cx!:=by rw[<-hi.length];simp
  have z2:jo.size=p3_:=by rw[<-hj.length];simp
  wp_walk using JD hl,JD O,IT _ (λrest b s'=>b.1=none/\s'=hh_/\∃(vs ws:h_) (p7 p8:D!),rest=vs.zip ws/\
   IntsAre vs p7/\IntsAre ws p8/\p7.length+jo.size=p8.length+da!/\R (.ok (.ret (.bool (lexLt p8 p7)))) hh_) _
  case turn=>
   rintro⟨y,x⟩ rest b s' ⟨cg,rfl,vs,ws,p7,p8,hz,yx,v8,ak,hR⟩;cases yx with
   |nil=>rw[List.zip_nil_left]at hz;cases hz
   |cons a t SS=>
    cases v8 with
    |nil=>rw[List.zip_nil_right]at hz;cases hz
    |cons c u SU=>
     rw[HD]at hz;injection hz with SV SW
     injection SV with hy L
     subst hy L;rw[lexLt_cons]at hR;simp only[AJ]at ak;obtain⟨e,he,NQ⟩:=b7j A.in1 hh_ a t c u;refine AA (he prog w _ _ ?_);cases e with
     |true=>
      rw[AQ (NQ.mp rfl).symm]at hR
      wp_walk
      exact⟨rfl,rfl,_,_,_,_,SW,SS,SU,r!,hR⟩
     |false=>
      rw[AI (λq=>absurd (NQ.mpr q.symm) BC)]at hR;have SX:=b3q A.in1 hh_ a t c u prog w
      wp_walk using SX
      exact⟨_,rfl,by simpa using hR⟩
  case fin=>
   rintro⟨b1,b2⟩ s' ⟨cg,rfl,vs,ws,p7,p8,hz,yx,v8,ak,hR⟩;simp only at cg;subst cg;have hv:lexLt p8 p7=decide (jo.size<da!):=by
    cases yx with
    |nil=>
     cases v8 with
     |nil=>
      simp only[EG]at ak;rw[lexLt_nil_nil];exact(AW a!).symm
     |cons c u hw=>
      simp only[EG,AJ]at ak;rw[mL];exact(AW a!).symm
    |cons a t hv=>
     cases v8 with
     |nil=>
      simp only[EG,AJ]at ak;rw[mK];exact(BK a!).symm
     |cons c u hw=>
      rw[HD]at hz;cases hz
   rw[hv]at hR
   wp_walk
   exact⟨_,rfl,by simpa[Builtin.Tuple.tupleCompareSizes]using hR⟩
  case h=>
   exact⟨rfl,rfl,items.toList,jo.toList,ns,ms,rfl,hi,hj,r!,h⟩
end
section
variable{prog:Program}{w:World}{A:Around}{E:Value->Shared->Prop}{s:Shared}
def gt_tupInts{b:Addr}{items jo:ab!}{ns ms:D!}{Q:p_}(hl:IsTup s.heap l items)(O:IsTup s.heap b jo)(hi:Ay_)(hj:Az!)
  (hu:ao!)(h:Q p3! s):wpAny n_ A (compareOp .Gt jh! dV_) Q E s:=by
 obtain⟨⟨cls,dd,data,sl⟩,ho,hc,n,hd⟩:=id hl;obtain⟨⟨LS,lf,data2,jd⟩,je,jf,n2,jg⟩:=id O;simp only at hc hd jf jg;subst hc hd jf jg;exact richCompare_meets_room (op:=.Gt) i5! i5_ PySem.F.slot_tuple_gt PySem.F.entry_tuple_gt (PySem.F.args_tuple_gt_2 _ _) (oJ l b items jo n n2 dd lf sl jd ns ms hi hj)
  ⟨ho,je,show Value.bool (lexLt ms ns)≠Value.notImplemented/\Q p3! s from⟨(λx=>nomatch x),h⟩⟩ hu
end
end HT
namespace DL
open PySem PySem.Spec PyProof.Rows L2
section
variable{X:Cx}{own bi:List Nat}{a b e tg o:Expr}{es:List Expr}{p pos:Pos}{fa fb f:Ag->Option D}
nonrec def d1s(K:W.Frag):R2:=λx y H Q=>∃a b ns ms,x=.ref a/\y=.ref b/\Lj K H a b8_/\Lj K H b (ms.map V.int)/\Q (.bl p5!) H
def c6w(hu:X.A.units<cLine):Md X zB_ (d1s X.K):=by intro J s Z H x y v u Q I rx ry h;obtain⟨a,b,ns,ms,rfl,rfl,ha,O,q⟩:=h;cases rx;cases ry;obtain⟨its,r1,p1,_⟩:=I.tuple ha;obtain⟨gj,r2,p2,_⟩:=I.tuple O;have i1:IntsAre its.toArray.toList ns:=nE r1;have i2:IntsAre gj.toArray.toList ms:=nE r2;exact HT.gt_tupInts p1 p2 i1 i2 hu ⟨.bl p5!,H,I,rfl,q⟩
nonrec def rW:List D->Option (List Int)
 |[]=>some []
 |.int i::r=>(rW r).map (i::·)
 |_=>none
def dS{K:W.Frag}{G:Hp}:∀{ds:b_} {vs:k_} {ns:D!},Bc K G ds vs->rW ds=some ns->vs=ns.map V.int
 |[],vs,ns,r,e=>by cases Fq r;cases e;rfl
 |d::ds,vs,ns,r,e=>by
  obtain⟨v,t,rfl,r1,r2⟩:=Dc r;cases d<;>simp only[rW]at e<;>first|(cases e;done)|skip
  obtain⟨l,e1,rfl⟩:=AO.mp e;rw[dS r2 e1];cases Bp r1;rfl
nonrec def gtT:D->D->Option D
 |.tup xs,.tup ys=>(rW xs).bind λns=>(rW ys).map λms=>.bl p5!
 |_,_=>none
def c7f{K:W.Frag}:Pb K (d1s K) gtT:=by
 show"!0";unfold gtT at e;show"!5"
 .obtain⟨ns,e1,e⟩:=AB.mp e;obtain⟨ms,e2,rfl⟩:=AO.mp e;show"!X";obtain⟨b,ws,rfl,qb,rb⟩:=Cz ry;rw[dS ra e1]at qa;rw[dS rb e2]at qb;exact⟨a,b,ns,ms,rfl,rfl,jV!,oc!,ed!⟩
 .cases e
nonrec def c6b(neg:Bool):R2:=λx y H Q=>∃b c,x=.bl b/\y=.bl c/\Q AB! H
def d6i:Md X zI! (c6b false):=by
 intro J s Z H x y v u Q I rx ry h;obtain⟨b,c,rfl,rfl,q⟩:=h;cases rx;cases ry;refine wpAny_is_plain rfl ?_;have e:AB_=(b==c):=by cases b<;>cases c<;>rfl
 rw[e];exact ke_
def d0d:Md X sx! (c6b true):=by
 intro J s Z H x y v u Q I rx ry h;obtain⟨b,c,rfl,rfl,q⟩:=h;cases rx;cases ry;refine wpAny_isNot_plain rfl ?_;have e:AB_=(b==c):=by cases b<;>cases c<;>rfl
 rw[e];exact ke_
nonrec def isB(neg:Bool):D->D->Option D
 |.bl b,.bl c=>some AB!
 |_,_=>none
def d6j{K:W.Frag}{neg:Bool}:Pb K (c6b neg) (isB neg):=by
 show"!0";unfold isB at e;show"!5"
 .cases e;cases Fo rx;cases Fo ry;exact oZ!
 .cases e
def b1r(hg:iw!)(hm:iw_)(ha:R!)(O:cf_)(hs:sb!:=by rfl)(bj:sa_:=by rfl)
  (c9:starEach (a::[b]) X.env=dO_::starEach [b] X.env:=by rfl)(jk:starEach (b::[]) X.env=ix!::starEach [] X.env:=by rfl):DI X own tg sc! (vZ fa fb):=
 a1r (b0l hg hm (Gs ha.ok (Gs O.ok Ku jk) c9) hs bj) λZ G H R ρ ds er e k=>by
  obtain⟨x,e1,e3⟩:=AB.mp e;obtain⟨y,e2,e4⟩:=AB.mp e3;clear e e3;split at e4
  .rename_i i j;split at e4
   .rename_i h;cases e4;refine yg!;cases Bp r1;cases Bp r2;refine⟨i,j,rfl,r!,k _ G2 H2 dl_ ?_⟩;intro n G' H' g1 g2;unfold tV;refine wI!;rw[BS]at hd;obtain⟨m,hj,rfl⟩:=AO.mp hd;obtain⟨hl,he⟩:=BA.mp hj;rw[HE]at he;subst he;rw[EY]at hl;refine⟨hl,ed_⟩;obtain⟨z1,z2⟩:=hy;subst z1 z2;exact⟨G',Ed.refl g2,Bl.int⟩
   .cases e4
  .cases e4
nonrec def c0b:V->List V->Hp->VK->Prop:=λx vs H Q=>∃l xs k y,x=.ref l/\vs=[.int (k:Nat),y]/\H l=some I!/\k<=i_/\i_<sizeLine/\Q .non (upd H l (.lst (xs.take k++y::xs.drop k)))
def b1a:MtM X "list.insert" c0b:=by
 intro J s Z H x vs v us Q I rx rv h;obtain⟨l,xs,k,y,rfl,rfl,hH,hk,hz,q⟩:=h;cases rx;obtain⟨u,u2,rfl,⟨t,rfl⟩,ru⟩:=a6f rv;obtain⟨z,its,n,r,hl,e⟩:=I.lstM hH;have xr:¬(!Builtin.List.listFitsIndex (k:Int))=true:=by
  rw[fitsIndex_both (Int.le_trans c! (Int.natCast_nonneg k)) (Int.lt_of_le_of_lt (Int.ofNat_le.mpr (BN hk (FK hz))) ws_)];exact BC
 have hsz:a7_<=sizeLine:=by rw[AN];omega
 refine JL (S:=?S) PySem.F.slot_list_insert dc_ PySem.F.entry_list_insert (PySem.F.args_list_insert_3 _ _ _) ?g ?h
 case g=>exact @PySem.AutoSeq1.list_insert_list_int_val_1 l its.toArray n (k:Int) t u2 xr hsz
 refine e3_;refine⟨.non,_,I.lset (its':=its.take k++u2::its.drop k) hH e ?_ ((r.take k).append (.cons ru (r.drop k))) ?_,rfl,q⟩
 .have B:¬aZ!<0:=by omega
  have Y:min (aZ!).toNat a7_=k:=by simp;omega
  simp only[B,BW,Y];simp[List.extract_eq_drop_take];rw[IB c_]
 .simp only[AT,AJ,HX,JU];omega
nonrec def b3k(i:Nat)(fk f:d_):Ag->Option Fl:=λρ=>(fk ρ).bind λx=>(ah!).bind λd=>match x,ρ[i]? with
 |.int j,some (some (.lst ds))=>if 0<=j/\j.toNat<=f_/\f_<big then some (.nx (ρ.set i (some (.lst (ds.take j.toNat++d::ds.drop j.toNat)))))else none
 |_,_=>none
def b1q{i:Nat}{x:Str}{ag ab:Pos}{fk:d_}(bp:d7!:=by decide)(hk:DE X own ek fk)(h:dl!)(hN:ai_:=by rfl)(hv:cY_:=by first|exact Or.inl rfl|exact Or.inr a_|exact Or.inr bn!)
  (hd:F_:=by decide)(bv:cZ!:=by decide)
  (bz:starEach (ek::[e]) X.env=(false,eval ek X.env)::starEach [e] X.env:=by rfl)(SY:j3!:=by rfl)(gk:((backTo ab (starEach [ek,e] X.env)).all cB!&&(cB_).all cC!
   &&decide ([ek,e].length+(dX_).length+e2!<30))=true:=by rfl) (dh:cA_:=by rfl)
  (df:attributeBase bo_ "insert" X.env j3_=eval bo_ X.env:=by rfl) (gn:(jn_).any b!=false:=by rfl) (j7:swapsWith AE_ none pos.line X.env=pure false:=by rfl):
  DS X own own (.Expr AE_ pos) (b3k i fk f):=⟨λG0 F0 J s Z H E I ⟨G,ρ,r,er,e',k⟩=>by
  refine iT (qX FC PySem.F.slot_list_insert PySem.F.type_list_insert b1a jM! (Gs hk.ok (Gs h.ok Ku SY) bz) df gk dh bz gn) j7 J s Z H E I ?_;obtain⟨z,e1,e4⟩:=AB.mp e';obtain⟨d,e3,e2⟩:=AB.mp e4;clear e' e4;obtain⟨p,ds,vs,B,Y,h3,h4,h5⟩:=er.or.own_ i bp;rw[B]at e2;cases z<;>first|(cases e2;done)|skip
  rename_i j;simp only at e2;split at e2
  .rename_i hj;cases e2;refine⟨fk_,Y,ot!,G,ρ,_,er.or,e1,λv G' H' x r=>⟨G',ρ,d,er.or.grow x,e3,λv2 G2 H2 x2 r2=>?_⟩⟩;cases Bp r;have hl:=Aq h5;refine⟨p,vs,j.toNat,v2,rfl,?_,w0_,r!,by rw[<-hl];exact BE hj.2.2 j4!,?_⟩
   .rw[Int.toNat_of_nonneg hj.1]
   .have h6:=(ot_).mono x2.g;exact k G2 Z _ (((g6!).grow x2).upd bp Y (Fm (Xb _ h6) (Bc.cons r2 (dU _ h6))))
  .cases e2⟩
end
end DL
namespace DL
open PySem PySem.Spec PyProof.Rows L2
section
variable{X:Cx}{own bi:List Nat}{a b e tg o:Expr}{es:List Expr}{p p2 pos:Pos}{fa fb fo f:WE}{fs:WA}
nonrec def b2m(i:Nat)(f:WE):WS:=λρ M R=>f ρ M λd M1=>Hi pC_ λq=>match ρ[i]? with
 |some (some (.lst ds))=>f_+kV!<=big/\R (.nx (ρ.set i (some (.lst (ds++q.2))))) M1
 |_=>False
def b1d{i:Nat}{x:Str}{ag ab:Pos}(bp:d7!:=by decide)(h:bU!)(hN:ai_:=by rfl)(hv:cY_:=by first|exact Or.inl rfl|exact Or.inr a_|exact Or.inr bn!)
  (hd:F_:=by decide)(bv:cZ!:=by decide)
  (bz:j3!:=by rfl)(gk:((jn_).all cB!&&(cB_).all cC!
   &&decide wW!)=true:=by rfl) (dh:cA_:=by rfl)
  (df:attributeBase bo_ "extend" X.env j3_=eval bo_ X.env:=by rfl) (gn:g7_:=by rfl) (j7:swapsWith AF_ none pos.line X.env=pure false:=by rfl):
  MS X own own (.Expr AF_ pos) (b2m i f):=
 bI (iT (qX FC PySem.F.slot_list_extend PySem.F.type_list_extend b1b jM! wX! df gk dh bz gn) j7) λM0 G0 F0 E Z G H ρ M R sr e' k1 k2=>by
  obtain⟨p,ds,vs,B,Y,h3,h4,h5⟩:=sr.st.or.own_ i bp;refine⟨fk_,Y,ot!,G,ρ,M,_,sr.st,e',zZ!⟩;obtain⟨⟨c,zs⟩,e1,r⟩:=Ef r;obtain⟨z1,z2,z3,us,h6,h7⟩:=cQ m q e1;cases z2;rw[B]at r;have dz:=sr.grow x m;obtain⟨p',r9,f9,g1,g2,g3,g4,g5⟩:=dz.st.or.own_ i bp;rw[Y]at g2;cases g2;rw[B]at g1;cases g1;refine⟨p,c,f9,us,rfl,rfl,g3,h6,?_,k1 _ M' G' Z _ r.2 (dz.after (dz.sr.upd bp Y (Fm g5 h7)))⟩;have:=r.1;rw[<-Aq g5,<-Aq h7];exact Ek this
nonrec def jP(s0:Str)(fa:WE):WE:=λρ M R=>fa ρ M λy M2=>Hi (Ug (.str s0) y) λd=>R d M2
def a8c{s0:Str}{n0:Nat}{ag ab:Pos}(ha:aa_)
  (df:attributeBase lb_ "join" X.env (eval lb_ X.env)=eval lb_ X.env:=by rfl)
  (gk:((oI_).all cB!&&(cB_).all cC!
   &&decide oJ!)=true:=by rfl)
  (dh:cA_:=by rfl) (hs:jZ_:=by rfl) (gn:g7_:=by rfl):
  ME X own (.Call (.Attribute lb_ "join" ag) [a] [] ab) (jP s0 fa):=
 Ij (qX PySem.F.plainAttrs_str PySem.F.slot_str_join PySem.F.type_str_join a8a b4u xs_ df gk dh hs gn) λZ G H Q ρ M R st e k=>⟨rfl,G,ρ,M,_,st,e,λy M2 w G2 H2 r2 x2 m2 q2=>by
  obtain⟨d,e3,r3⟩:=Ef r2;cases y<;>first|(cases e3;done)|skip
  rename_i xs;obtain⟨ys,e4,e5⟩:=AB.mp (show((Yh xs).bind λys=>if(he_).sum+M_*s0.length<=big then some (.str (Txt.join s0 ys))else none)=some d from e3);split at e5
  .rename_i hl;cases e5;obtain⟨p,vs,rfl,q,rr⟩:=Cp q2;have:=kY rr e4;subst this;exact⟨_,p,ys,rfl,rfl,x2.sub.seq q,BN hl c!,k _ M2 _ G2 H2 r3 x2 m2 Bl.str⟩
  .cases e5⟩
nonrec def a6d(fs:WA)(fb:WE):WE:=λρ M R=>fs ρ M λds M1=>f_<=1000/\fb ρ M1 λy M2=>match y with
 |.int k=>(0<=k/\k<=1000/\f_*k.toNat<=1000)/\∀p,M2 p=none->R y! (Cb M2 p (.lst (List.replicate k.toNat ds).flatten))
 |_=>False
def b7g{G H:Hp}{p:Addr}{o:HO}(s:L_)(hp:cG!):Ed G H G fc_:=⟨fd!,Pm hp,s.trans (Pm hp),dp!⟩
def yS{K:W.Frag}{G:Hp}(r:g6_):∀k:Nat,Bc K G (List.replicate k ds).flatten (List.replicate k vs).flatten
 |0=>Bc.nil
 |k+1=>by
  rw[EE,EE,FS,FS];exact Fm r (yS r k)
def c1n(ha:hw_)(O:cl_):ME X own (.BinOp (.List es p2) .Mult b pos) (a6d fs fb):=
 Ij (a7m c6q (lP ha.ok) O.ok) λZ G H Q ρ M R st e k=>⟨G,ρ,M,_,st,e,λds M1 vs G1 H1 r1 x1 m1 q1=>⟨by rw[<-Aq q1];exact Lw r1.1,λp hp=>by
  have xj:Ed G1 H1 G1 (upd H1 p dj_):=b7g x1.sub hp;have hM:M1 p=none:=m1.nocell hp;refine⟨G1,ρ,M1,_,(fE_).grow (.ext xj) (m1.ext xj),r1.2,λy M2 v G2 H2 r2 x2 m2 q2=>?_⟩;cases y<;>first|exact r2.elim|skip
  rename_i n;cases Bp q2;obtain⟨⟨hn,ig,hl⟩,r2⟩:=r2;have SZ:H2 p=some dj_:=x2.keep p _ Db hM;refine⟨p,n,vs,rfl,rfl,SZ,r!,r!,by rw[<-Aq q1];exact Lw hl,kp_⟩;have S':=(x1.trans (.ext xj) m1).trans x2 (m1.ext xj);exact k _ _ _ G2 _ (r2 c (m2.nocell hc)) (S'.trans (.laid x2.sub hc) m2) (m2.laid hc x2.sub ⟨_,Db,yS bU_ _⟩) Bl.fn⟩⟩
end
nonrec def rk(r:fK!)(xs:cp!)(i:Nat):Int:=(xs[i]?.map r).getD 0
def b3n{r:fK!}{xs:cp!}{c d:Nat}(hs:c<xs.size)(hd:d<=c)(k:Nat):rk r (bubble xs c d) k=if k=c - d then rk r xs c else if c - d<k/\k<=c then rk r xs (k - 1)else rk r xs k:=by
 unfold rk;rw[getElem?_bubble hs d hd k];split
 .rfl
 .split<;>rfl
def a3q{r:fK!}{xs:cp!}{i j:Nat}(hj:j<=xs.size)(k:Nat):rk r AH_ k=if i<=k/\k<j then rk r xs (i+j - 1 - k)else rk r xs k:=by unfold rk;rw[getElem?_mirror_all hj k];split<;>rfl
def aX{r:fK!}{xs:cp!}{i j:Nat}(hj:j<=xs.size)(he:∀k,i<=k->k<j->rk r xs k=rk r xs et!)(k:Nat):rk r AH_ k=rk r xs k:=by
 rw[a3q hj];by_cases h:i<=k/\k<j
 .rw[AQ h,he _ a! a!,he k h.1 h.2]
 .rw[AI h]
nonrec def Up(r:fK!)(xs:cp!)(n:Nat):Prop:=∀i j,i<=j->j<n->rk r xs i<=rk r xs j
nonrec def Dn(r:fK!)(xs:cp!)(n:Nat):Prop:=∀i j,i<=j->j<n->rk r xs j<=rk r xs i
structure SB(kd:SortKind)(a0:cp!)(st:SortSt):Prop where
 pm:(B_).Perm a0
 kn:kindOf st=kd
 fl:failedOf st=none
 pd:pendingOf st=#[]
def SB.sz{kd:SortKind}{a0:cp!}{st:SortSt}(h:cp_):(B_).size=a0.size:=h.pm.size_eq
def SB.put{kd:SortKind}{a0 xs:cp!}{st:SortSt}(h:cp_)(hp:xs.Perm B_):SB kd a0 (setArr st xs):=⟨hp.trans h.pm,h.kn,h.fl,h.pd⟩
section
variable{prog:Program}{w:World}{A:Around}{E:Value->Shared->Prop}{s:Shared}{a0:Array Keyed}{kd:SortKind}{r:Keyed->Int}
variable (prog w A s a0 kd r)in
nonrec def a2l:Prop:=∀(x y:Keyed) (F:p_) (Q:ej_),x∈hL!->y∈hL!->Q (decide (r x<r y)) s->wpAny n_ A (keyLt' kd x.1 y.1) Q F s
def b3j{st:SortSt}{i j:Nat}{Q:Option Bool->SortSt->Prop}(hl:dA!)(b:cp_)(hi:i<a0.size)(hj:j<a0.size)(h:Q (some (decide (rk r B_ i<rk r B_ j))) st):wpS n_ A E s (ltAt' i j) Q st:=by
 have at_:∀k,k<a0.size->∃p,B_[k]?=some p/\p∈hL!/\rk r B_ k=r p:=λk hk=>by
  have cv:k<(B_).size:=by rw[b.sz];exact hk
  refine⟨B_[k],AI!,(Array.perm_iff_toList_perm.mp b.pm).mem_iff.mp c_,?_⟩;unfold rk;rw[AI!];rfl
 obtain⟨x,ex,mx,rx⟩:=at_ i hi;obtain⟨y,ey,my,ry⟩:=at_ j hj;rw[rx,ry]at h;rw[ltAt'_eq];refine CV fK_;show wpS n_ A E s (elem' B_ i>>=λx=>elem' B_ j>>=λy=>lt' x y) Q st;rw[elem'_eq,elem'_eq,ex,ey];refine CV (EK (CV (EK ?_)));rw[lt'_eq];refine CV fK_;rw[b.kn];exact CV (wpS_lift (HF (hl x y _ _ mx my ⟨rfl,EK h⟩)))
def c4c{st:SortSt}{a n:Nat}{Q:AscSt->SortSt->Prop}(hl:dA!)(hn:fL!)(ha:1<=a)(TB:a<=n)(b:cp_)(hu:Up r B_ a)
  (h:∀m,a<=m->m<=n->Up r B_ m->(m=n\/rk r B_ m<rk r B_ hL_)->Q (none,m) st):wpS n_ A E s (ascLoop a n) Q st:=by
 unfold ascLoop;refine IW (I:=λx c h1=>h1=st/\c=(none,x)/\Up r B_ x) ?_ ?_ ⟨rfl,rfl,hu⟩
 .rintro x c h1 B Y ⟨rfl,rfl,u⟩;refine CV (b3j hl b (BE Y hn) a! ?_);by_cases q:rk r A! x<rk r A! hM!
  .rw[BK q];exact EK (h x B (FK Y) u (.inr q))
  .rw[AW q];refine EK ⟨rfl,rfl,AI_⟩;rcases EO j x with h5|h5
   .exact u i j h3 h5
   .have:j=x:=by omega
    subst this;rcases EO i j with h6|h6
    .have:=u i et! a! a!;omega
    .have:i=j:=by omega
     rw[this];exact EW _
 .rintro c h1 ⟨rfl,rfl,u⟩;rw[show max a n=n by omega]at u ⊢;exact h n TB x_ u aB_
def b3g{st:SortSt}{m n:Nat}{Q:qb_}(hl:dA!)(hn:fL!)(B:1<=m)(hm:m<=n)(b:cp_)(hd:Dn r B_ m)
  (h:qc!):wpS n_ A E s (tail3 m n) Q st:=by
 unfold tail3;have b':SB kd a0 (setArr st qc_):=b.put lc_;have hz:m<=(B_).size:=by rw[b.sz];omega
 refine CV (wpS_reverse (CV (c4c hl hn B hm b' (λi j h3 h4=>?_) λk h3 h4 u _=>EK (h k _ b' a! h4 u))));show rk r qc_ i<=rk r qc_ j;rw[a3q hz,a3q hz,Y_,Y_];exact hd _ _ a! a!
def c5t{st:SortSt}{m n:Nat}{Q:DescSt->SortSt->Prop}(hl:dA!)(hn:fL!)(B:1<=m)(hm:m<=n)(b:cp_)(hd:Dn r B_ m)
  (h:∀k q h1,SB kd a0 h1->m<=k->k<=n->Dn r A! k->q+1<=k->(∀i,k - (q+1)<=i->i<k->rk r A! i=rk r A! (k - 1))->Q (none,k,q) h1):wpS n_ A E s (descLoop m n) Q st:=by
 unfold descLoop;refine IW (I:=λx c h1=>∃q,c=(none,x,q)/\SB kd a0 h1/\Dn r A! x/\q+1<=x/\∀i,x - (q+1)<=i->i<x->rk r A! i=rk r A! hM!) ?_ ?_ ⟨0,rfl,b,hd,r!,λi Y h3=>by rw[show i=m - 1 by omega]⟩
 .rintro x c h1 Y h3 ⟨q,rfl,b',d,hq,he⟩;have hz:x<=(A!).size:=by rw[b'.sz];omega
  refine CV (b3j hl b' (BE h3 hn) AJ_ ?_);by_cases p:rk r A! x<rk r A! hM!
  .rw[BK p];have pe:∀xs:Array Keyed,(∀k,rk r xs k=rk r A! k)->Dn r xs (x+1):=λxs hk i j h4 h5=>by
    rw[hk,hk];rcases EO j x with h6|h6
    .exact d i j h4 h6
    .have:j=x:=by omega
     subst this;rcases EO i j with h7|h7
     .have:=d i et! a! a!;omega
     .show"#?"
   by_cases tj:q>0
   .simp only[CF,tj];exact CV (wpS_reverse (EK ⟨0,rfl,b'.put lc_,pe _ (aX hz he),r!,AK!⟩))
   .simp only[CF,tj,BW];exact EK ⟨0,rfl,b',pe _ λ_=>rfl,r!,AK!⟩
  .rw[AW p];show"#)";refine CV (b3j hl b' AJ_ (BE h3 hn) ?_);by_cases p2:rk r A! hM!<rk r A! x
   .rw[BK p2];exact EK (h x q h1 b' Y (FK h3) d hq he)
   .rw[AW p2];have ex:rk r A! x=rk r A! hM!:=by omega
    refine EK ⟨q+1,rfl,b',λi j h4 h5=>?_,r!,λi h4 h5=>?_⟩
    .rcases EO j x with h6|h6
     .exact d i j h4 h6
     .have:j=x:=by omega
      subst this;rcases EO i j with h7|h7
      .rw[ex];exact d i et! a! a!
      .show"#?"
    .rw[show x+1 - 1=x by omega];rcases EO i x with h6|h6
     .rw[ex];exact he i a! h6
     .rw[show i=x by omega]
 .rintro c h1 ⟨q,rfl,b',d,hq,he⟩;rw[show max m n=n by omega]at d hq he ⊢;exact h n q h1 b' hm x_ d hq he
def b3i{st:SortSt}{m n:Nat}{Q:qb_}(hl:dA!)(hn:fL!)(hm:m+1<=n)(b:cp_)(hd:Dn r B_ (m+1))
  (h:qc!):wpS n_ A E s (descPart m n) Q st:=by
 unfold descPart;refine CV (wpS_lift (EB ⟨rfl,CV (c5t hl hn a! hm b hd λk q h1 b' B Y d hq he=>?_)⟩));by_cases tj:q>0
 .simp only[CF,tj];refine CV (wpS_reverse (b3g hl hn a! Y (b'.put lc_) (λi j h4 h5=>?_) h));show rk r AL! j<=rk r AL! i;have hz:k<=(A!).size:=by rw[b'.sz];omega
  rw[aX hz he,aX hz he];exact d i j h4 h5
 .simp only[tj,BW];exact b3g hl hn a! Y b' d h
def b9z{st:SortSt}{n:Nat}{Q:qb_}(hl:dA!)(hn:fL!)(B:1<=n)(b:cp_)(h:qc!):
  wpS n_ A E s (countRun' 0 n) Q st:=by
 rw[countRun0_eq];refine CV (c4c hl hn (AY 1) B b (λi j h3 h4=>by rw[fM_];exact EW _) λm h3 h4 u TC=>?_);by_cases e:m=n
 .simp only[FR,e,CF];rw[<-e];exact EK AL_
 .have am:rk r B_ m<rk r B_ hL_:=TC.resolve_left e;simp only[FR,e,BW];by_cases hg:m>1
  .simp only[hg,CF];refine CV (b3j hl b a! a! ?_);by_cases p:rk r B_ 0<rk r B_ hL_
   .rw[BK p];exact EK AL_
   .rw[AW p];have tu:∀k,0<=k->k<m->rk r B_ k=rk r B_ hL_:=λk _ hk=>by
     have a1:=u 0 k a! hk;have a2:=u k hL_ a! a!;omega
    have hz:m<=(B_).size:=by rw[b.sz];omega
    refine CV (wpS_reverse (b3i hl hn a! (b.put lc_) AM_ h));show rk r AO! j<=rk r AO! i;rw[aX hz tu,aX hz tu];rcases EO j m with h7|h7
    .rw[tu i a! a!,tu j a! h7];exact EW _
    .have:j=m:=by omega
     subst this;rcases EO i j with h8|h8
     .rw[tu i a! h8];omega
     .show"#?"
  .simp only[hg,BW];have:m=1:=by omega
   subst this;refine b3i hl hn a! b AM_ h;rcases EO i j with h8|h8
   .rw[show i=0 by omega,show j=1 by omega];exact Int.le_of_lt am
   .show"#?"
def c7k{lo hi k x n:Nat}(h:¬lo>=hi)(g2:hi<=k)(g3:hi - lo<=k - x)(hk:k<n):lo<=cR_ / 2/\cR_ / 2<hi/\cR_ / 2<k/\cR_ / 2<n/\cR_ / 2 - lo<=k - (x+1)/\hi - (cR_ / 2+1)<=k - (x+1):=by omega
def d1g{st:SortSt}{n k0:Nat}{Q:Bool->SortSt->Prop}(hl:dA!)(hn:fL!)(hk:k0<=n)(b:cp_)(hu:Up r B_ k0)(h:∀h1,SB kd a0 h1->Up r A! n->Q true h1):
  wpS n_ A E s (binarySort' 0 n k0) Q st:=by
 rw[binarySort'_eq];simp only[II];refine CV (wpS_mono (IW (I:=λk c h1=>c=el!/\SB kd a0 h1/\Up r A! (min k n)) (Q:=λc h1=>c=el!/\SB kd a0 h1/\Up r A! n) ?_ ?_ ⟨rfl,b,AI_⟩) ?_)
 .rintro k c h1 Y h3 ⟨rfl,b',u⟩;rw[show min k n=k by omega]at u;have kh:k<a0.size:=by omega
  refine CV (wpS_mono (IW (I:=λx c bg=>bg=h1/\∃lo hi,c=(none,lo,hi)/\lo<=hi/\hi<=k/\hi - lo<=k - x/\AO_/\∀i,hi<=i->i<k->rk r A! k<rk r A! i)
   (Q:=λc bg=>bg=h1/\∃lo hi,c=(none,lo,hi)/\lo<=k/\AO_/\∀i,lo<=i->i<k->rk r A! k<rk r A! i) ?_ ?_ ⟨rfl,0,k,rfl,r!,r!,r!,λi hi=>by omega,λi h4 h5=>by omega⟩) ?_)
  .rintro x c bg h4 h5 ⟨rfl,lo,hi,rfl,g1,g2,g3,g4,g5⟩;show"#4";by_cases yy:lo>=hi
   .rw[AQ yy];have:lo=hi:=by omega
    subst this;exact EK AP_
   .rw[AI yy];obtain⟨m1,m2,m3,m4,m5,m6⟩:=c7k yy g2 g3 kh;refine CV (b3j hl b' kh m4 ?_);by_cases p:rk r dA_ k<rk r dA_ qe!
    .rw[BK p];exact EK ⟨rfl,lo,cR_ / 2,rfl,m1,FK m3,m5,g4,λi h6 h7=>Int.lt_of_lt_of_le p (u qe! i h6 h7)⟩
    .rw[AW p];exact EK ⟨rfl,cR_ / 2+1,hi,rfl,m2,g2,m6,λi h6=>Int.le_trans (u i qe! (Nat.le_of_lt_succ h6) m3) (Int.not_lt.mp p),g5⟩
  .rintro c bg ⟨rfl,lo,hi,rfl,g1,g2,g3,g4,g5⟩;have:lo=hi:=by omega
   subst this;exact AP_
  .rintro c bg ⟨rfl,lo,hi,rfl,g1,g4,g5⟩;show wpS n_ A E s (moveDown' k lo>>=λ_=>pure (ForInStep.yield el!)) _ _;rw[moveDown'_eq];refine CV (wpS_modify (EK ⟨rfl,b'.put (bubble_perm _ _ _),λi j h6 h7=>?_⟩));rw[show min Q! n=k+1 by omega]at h7;have nu:k<(dA_).size:=by rw[b'.sz];exact kh
   show rk r AQ_ i<=rk r AQ_ j;rw[b3n nu a!,b3n nu a!,show k - (k - lo)=lo by omega];have n1:∀m,m<lo->rk r dA_ m<=rk r dA_ k:=g4;have n2:∀m,lo<=m->m<k->rk r dA_ k<rk r dA_ m:=g5;by_cases ei:i=lo
   .rw[AQ ei];by_cases ej:j=lo
    .rw[AQ ej];exact EW _
    .rw[AI ej];by_cases fj:lo<j/\j<=k
     .rw[AQ fj];exact Int.le_of_lt (n2 et! a! a!)
     .omega
   .rw[AI ei];by_cases fi:lo<i/\i<=k
    .rw[AQ fi,AI a!,Y_];exact u (i - 1) et! a! a!
    .rw[AI fi];by_cases ej:j=lo
     .rw[AQ ej];exact n1 i a!
     .rw[AI ej];by_cases fj:lo<j/\j<=k
      .rw[AQ fj];exact u i et! a! a!
      .rw[AI fj];exact u i j h6 a!
 .rintro c h1 ⟨e,b',u⟩;rw[show min (max (max k0 1) n) n=n by omega]at u;exact⟨e,b',u⟩
 .by_cases h0:k0=0
  .show"#?"
  .exact hu i j h3 a!
 .rintro c h1 ⟨rfl,b',u⟩;exact EK (h h1 b' u)
def b3h{st:SortSt}{Q:Unit->SortSt->Prop}(hl:dA!)(b:cp_)(Y:2<=a0.size)(nz:a0.size<64)
  (h:∀h1,(A!).Perm a0->failedOf h1=none->Up r A! a0.size->Q () h1):wpS n_ A E s sortRuns' Q st:=by
 rw[sortRuns'_eq];refine CV fK_;have TD:minRun' a0.size a0.size 0=a0.size:=by
  have:∀f,minRun' (f+1) a0.size 0=a0.size:=λf=>by rw[minRun'_succ,AQ nz];rfl
  have q:=this (a0.size - 1);rwa[show a0.size - 1+1=a0.size by omega]at q
 dsimp only;simp only[b.sz,TD];have fin:∀{h1:SortSt},SB kd a0 h1->Up r A! a0.size->(arrOf le_).Perm a0/\failedOf le_=none/\pendingOf le_=#[le!]/\Up r (arrOf le_) a0.size:=
  λ{h1} b' u=>⟨b'.pm,b'.fl,by show(AS_).push _=_;rw[b'.pd];rfl,u⟩
 refine CV (wpS_mono (IW (I:=λx c h1=>(x=0/\c=(none,0)/\SB kd a0 h1)\/(1<=x/\c=AU!/\(A!).Perm a0/\failedOf h1=none/\pendingOf h1=#[le!]/\Up r A! a0.size))
  (Q:=λc h1=>c=AU!/\(A!).Perm a0/\failedOf h1=none/\pendingOf h1=#[le!]/\Up r A! a0.size) ?_ ?_ (.inl ⟨rfl,rfl,b⟩)) ?_)
 .rintro x c h1 _ L (⟨rfl,rfl,b'⟩|⟨_,rfl,d⟩)
  .show"#4";rw[AI a!];simp only[Nat.sub_zero,Nat.min_self,II];refine CV (b9z hl x_ a! b' λm bg b2 g1 g2 u2=>?_);by_cases am:m<a0.size
   .simp only[am,CF];refine CV (wpS_lift (EB ⟨rfl,CV (d1g hl x_ g2 b2 u2 λvf b3 u3=>?_)⟩));simp only[EA,BI,BW];refine CV fK_;rw[show(pendingOf vf).back?=none by rw[b3.pd];rfl];exact CV (wpS_modify (EK (.inr ⟨AY 1,rfl,fin b3 u3⟩)))
   .simp only[am,BW];have:m=a0.size:=by omega
    subst this;refine CV fK_;rw[show(pendingOf bg).back?=none by rw[b2.pd];rfl];exact CV (wpS_modify (EK (.inr ⟨AY 1,rfl,fin b2 u2⟩)))
  .show"#4";rw[AQ x_];exact EK ⟨rfl,d⟩
 .rintro c h1 (⟨L,_⟩|⟨_,e,d⟩)
  .omega
  .exact⟨e,d⟩
 .rintro c h1 ⟨rfl,d1,d2,d3,d4⟩;refine CV (wpS_mono (IW (I:=λ_ c bg=>bg=h1/\c=el!) (Q:=λc bg=>bg=h1/\c=el!) ?_ AV_ bJ_) ?_)
  .rintro x c bg _ _ ⟨rfl,rfl⟩;refine CV fK_;rw[AQ (by rw[d3];exact AY 1)];exact EK bJ_
  .rintro c bg ⟨rfl,rfl⟩;exact EK (h _ d1 d2 d4)
end
abbrev b9l:Bool->SortKind:=sortPriv%PySem.Builtin.KeyKind.tuples
section
variable{prog:Program}{w:World}{A:Around}{E:Value->Shared->Prop}{s:Shared}
nonrec def Ny(h:Heap)(v:Value)(a b:Int):Prop:=∃(p:Addr) (o:Obj) (n:Nat) (t u:Tok),v=.ref p/\h.get? p=some o/\o.cls=.type "tuple"/\o.data=.seq #[.int a t,.int b u] n
nonrec def ltP(a b c d:Int):Bool:=if a=c then decide (b<d)else decide (a<c)
def qZ{f:Bool}{a b:Int}{Q:ej_}(h:Q (decide (a<b)) s):wpAny n_ A (oneLt' f gA! (.int b u)) Q E s:=by
 cases f with
 |true=>exact oneLt_int h
 |false=>
  rw[oneLt'_eq];rw[AI BC];refine AA (show wpAny n_ A (compareOp .Lt gA! (.int b u)) _ E s from PyProof.Rows.lt_int ?_);exact CA h
def mX{f:Bool}{a b c d:Int}{Q:ej_}(L:Ny s.heap x a b)(hy:Ny s.heap y c d)(h:Q (ltP a b c d) s):wpAny n_ A (keyLt' (b9l f) x y) Q E s:=by
 obtain⟨p,o,n,t,u,rfl,B,_,Y⟩:=L;obtain⟨p',o',n',t',u',rfl,j9,_,nv⟩:=hy;show wpAny n_ A (Builtin.List.listItems b5_>>=_) Q E s;refine AA (IY B Y (AA (IY j9 nv gp_)));show wpAny n_ A (forIn [((Value.int a t,Value.int c t'),0),((Value.int b u,Value.int d u'),1)] _ _) _ E s;rw[FP];refine AA (AA (HU a t c t' _ _ _ _ ?_));unfold ltP at h;by_cases e:a=c
 .rw[AQ e]at h;have e1:(a==c)=true:=by simpa using e
  rw[e1];simp only[EA,BI,BW];refine AC ?_;show"#4";rw[FP];refine AA (AA (HU b u d u' _ _ _ _ ?_));by_cases e2:b=d
  .have e3:(b==d)=true:=by simpa using e2
   rw[e3];simp only[EA,BI,BW];refine AC ?_;dsimp only;rw[HI];refine AC ac_;have e4:decide (b<d)=false:=by rw[e2];simp
   rw[e4]at h;simpa using h
  .have e3:(b==d)=false:=by simpa using e2
   rw[e3];simp only[HK,CF];exact AA AX!
 .rw[AI e]at h;have e1:(a==c)=false:=by simpa using e
  rw[e1];simp only[HK,CF];exact AA AX!
def a6b{α β:Type}{f:α->Sem β}{F:cU_}{Q:Array β->Shared->Prop}:∀(xs:K_),AY!->(∀ys,Paired F xs ys->Q ys.toArray s)->wpAny n_ A (xs.toArray.mapM f) Q E s:=by
 intro xs hf hq;rw[Array.mapM_eq_mapM_toList];have ke:∀(xs:K_) (R:List β->Shared->Prop),AY!->(∀ys,Paired F xs ys->R ys s)->wpAny n_ A (xs.mapM f) R E s:=by
  intro xs
  induction xs with
  |nil=>
   intro R _ h;rw[List.mapM_nil];exact AC (h [] .nil)
  |cons x xs ih=>
   intro R B Y;rw[List.mapM_cons];refine AA (B x AL _ λy hy=>AA (ih _ (λz hz=>B z lf!) λys p9=>AC (Y _ (.cons hy p9))))
 have:(List.toArray<$>xs.toArray.toList.mapM f:Sem (Array β))=(xs.toArray.toList.mapM f>>=λl=>pure l.toArray):=by rw[map_eq_pure_bind]
 rw[this];exact AA (ke _ _ (by simpa using hf) λys p9=>AC (hq ys (by simpa using p9)))
def a0s{vs:h_}{Q:SortKind->Shared->Prop}(h:∀v∈vs,∃a b,Ny s.heap v a b)(h0:vs≠[])(hq:Q (b9l true) s):wpAny n_ A (keyKind' b8!) Q E s:=by
 show wpAny n_ A (Array.mapM _ b8!>>=_) Q E s;refine AA (a6b (F:=λ_ y=>∃a t,y=some lf_) vs AY_ λys p9=>?_)
 .obtain⟨a,b,p,o,n,t,u,rfl,B,Y,h3⟩:=h v hv;show wpAny n_ A (typeOf b5_>>=_) R E s;refine AA (wpAny_typeOf (T:="tuple") oi! ?_);rw[AI c!];exact AA (IY B h3 (AC (hR _ ⟨a,t,rfl⟩)))
 .have gq:∀y∈ys,∃a t,y=some lf_:=by
   have ke:∀{l:h_} {m:List tS!},Paired (λ_ y=>∃a t,y=some lf_) l m->∀y∈m,∃a t,y=some lf_:=by
    intro l m hp
    induction hp with
    |nil=>intro y hy;cases hy
    |cons q _ ih=>
     intro y hy;rcases AE.mp hy with rfl|hy
     .exact q
     .exact ih y hy
   exact ke p9
  have b7:ys≠[]:=λz=>by subst z;cases p9;exact h0 rfl
  rw[AQ (by rw[List.all_toArray,DQ];intro y hy;obtain⟨a,t,rfl⟩:=gq y hy;rfl)];refine AA hg_;have hints:∀v∈(AZ!).toList,∃a t,v=Value.int a t:=λv hv=>by
   simp only[List.filterMap_toArray,FH,id]at hv;obtain⟨y,hy,e⟩:=hv;obtain⟨a,t,e2⟩:=gq y hy;rw[e2]at e;exact⟨a,t,(BZ e).symm⟩
  have hz:(AZ!).toList≠[]:=λz=>by
   cases ys with
   |nil=>exact b7 rfl
   |cons y r=>
    obtain⟨a,t,rfl⟩:=gq y AL;simp at z
  generalize hZ:ys.toArray.filterMap id=TF at hints hz ⊢;obtain⟨zs⟩:=TF;refine AA ?_;show wpAny n_ A (Array.mapM typeOf zs.toArray>>=_) _ E s;refine AA (a6b (F:=λ_ y=>y=Value.type "int") zs AY_ λts NR=>?_)
  .obtain⟨a,t,rfl⟩:=hints v i6_;exact wpAny_typeOf (typeIs_int s a t) (hR _ rfl)
  .have NS:∀t∈ts,t=Value.type "int":=by
    have ke:∀{l m:h_},Paired (λ_ y=>y=Value.type "int") l m->∀y∈m,y=Value.type "int":=by
     intro l m hp
     induction hp with
     |nil=>intro y hy;cases hy
     |cons q _ ih=>
      intro y hy;rcases AE.mp hy with rfl|hy
      .exact q
      .exact ih y hy
    exact ke NR
   cases ts with
   |nil=>cases NR;exact absurd rfl hz
   |cons t r=>
    have ht:=NS t AL;subst ht;have e1:((A0!).toArray)[0]?=some (Value.type "int"):=rfl;rw[e1];have e2:((A0!).toArray.all λx=>x==Value.type "int")=true:=by
     rw[List.all_toArray,DQ];intro y hy;rw[NS y hy];rfl
    show"#4";rw[AQ e2];exact AC (AC hq)
end
nonrec def Uv(p q:dB!):Bool:=ltP p.1 p.2 q.1 q.2
def iZ{p q:dB!}:Uv p q=true↔(p.1<q.1\/(p.1=q.1/\p.2<q.2)):=by
 unfold Uv ltP;split
 .rename_i h;rw[BM];omega
 .rename_i h;rw[BM];omega
def a8d(p:dB!):Uv p p=false:=by
 cases h:Uv p p with
 |false=>rfl
 |true=>have:=iZ.mp h;omega
def Ry{p q r:dB!}(B:Uv p q=true)(Y:Uv q r=true):Uv p r=true:=by rw[iZ]at B Y ⊢;omega
def uU{p q:dB!}(h:p≠q)(B:Uv p q=false):Uv q p=true:=by
 have j9:¬Uv p q=true:=by rw[B];simp
 rw[iZ]at j9 ⊢;have:¬(p.1=q.1/\p.2=q.2):=λz=>h (Prod.ext z.1 z.2);omega
section
variable{α:Type}(kf:α->Int×Int)
nonrec def nH(x:α):List α->List α
 |[]=>[x]
 |y::r=>if Uv (kf x) (kf y)then x::y::r else y::nH x r
nonrec def Qv:List α->List α
 |[]=>[]
 |x::r=>nH kf x (Qv r)
nonrec def fI(l:K_):Prop:=l.Pairwise λx y=>Uv (kf x) (kf y)=true
variable {kf}
def eV(x:α):∀l:List α,(nH kf x l).Perm (x::l)
 |[]=>GN _
 |y::r=>by
  unfold nH;split
  .exact GN _
  .exact((eV x r).cons y).trans (List.Perm.swap x y r)
def Ev:∀l:List α,(Qv kf l).Perm l
 |[]=>GN _
 |x::r=>(eV x _).trans ((Ev r).cons x)
def nG{x:α}:∀{l:K_},fI kf l->(∀y∈l,kf x≠kf y)->fI kf (nH kf x l)
 |[],_,_=>List.pairwise_singleton _ _
 |y::r,h,hn=>by
  unfold nH;unfold fI at h;rw[CY]at h;split
  .rename_i am;refine CY.mpr ⟨lh_,CY.mpr h⟩;rcases AE.mp hz with rfl|hz
   .exact am
   .exact Ry am (h.1 z hz)
  .rename_i am;refine CY.mpr ⟨lh_,nG h.2 λz hz=>hn z lf!⟩;rcases AE.mp ((eV x r).mem_iff.mp hz)with rfl|hz
   .exact uU (hn y AL) yR!
   .exact h.1 z hz
def Ro:∀{l:K_},(l.map kf).Nodup->fI kf (Qv kf l)
 |[],_=>jr_
 |x::r,h=>by
  rw[AH,AX]at h;refine nG (Ro h.2) λy hy e=>h.1 ?_;rw[e];exact AM ((Ev r).mem_iff.mp hy)
def aU:∀{l m:K_},fI kf l->fI kf m->l.Perm m->l=m
 |[],m,_,_,h=>(List.Perm.nil_eq h)
 |x::l,m,B,Y,h=>by
  cases m with
  |nil=>exact absurd h.length_eq c_
  |cons y m=>
   have e:x=y:=by
    rcases AE.mp (h.mem_iff.mp AL)with e|L
    .exact e
    .rcases AE.mp (h.symm.mem_iff.mp AL)with e|hy
     .exact e.symm
     .have a1:=(CY.mp B).1 y hy;have a2:=(CY.mp Y).1 x L;have:=Ry a1 a2;rw[a8d]at this;cases this
   subst e;rw[aU (CY.mp B).2 (CY.mp Y).2 ((List.perm_cons x).mp h)]
def b4s{β:Type}{f:li!}{l m:dD_}(h:l.Perm m):∀{ay:K_},m=ay.map f->∃L':List α,L'.Perm ay/\L'.map f=l:=by
 induction h with
 |nil=>intro ay e;exact⟨[],by rw[List.map_eq_nil_iff.mp e.symm],rfl⟩
 |cons x _ ih=>
  intro ay e;cases ay with
  |nil=>cases e
  |cons y ay=>
   injection e with e1 e2
   obtain⟨L',B,Y⟩:=ih e2;exact⟨y::L',B.cons y,by rw[AH,Y,e1]⟩
 |swap x y l=>
  intro ay e
  match ay,e with
  |a::b::ay,e=>
   injection e with e1 e2
   injection e2 with e3 e4
   exact⟨b::a::ay,List.Perm.swap a b ay,by rw[AH,AH,<-e1,<-e3,<-e4]⟩
 |trans _ _ TH TJ=>
  intro ay e;obtain⟨L2,B,Y⟩:=TJ e;obtain⟨L1,h3,h4⟩:=TH Y.symm;exact⟨L1,h3.trans B,h4⟩
nonrec def Qx(ks:fN_)(k:dB!):Int:=((ks.filter λx=>Uv x k).length:Nat)
def dQ{ks:fN_}{p q:dB!}(hp:p∈ks)(h:Uv p q=true):Qx ks p<Qx ks q:=by
 unfold Qx;have ke:∀l:List hN!,(A1_).length<=(A2!).length:=by
  intro l
  induction l with
  |nil=>simp
  |cons x l ih=>
   simp only[JV];by_cases L:Uv x p=true
   .simp only[L,Ry L h,CF,AJ];omega
   .by_cases hy:Uv x q=true
    .simp only[L,hy,CF,AJ];show"#)";omega
    .simp only[L,hy];show"#)";exact ih
 have TK:∀l:List hN!,p∈l->(A1_).length<(A2!).length:=by
  intro l hl
  induction l with
  |nil=>cases hl
  |cons x l ih=>
   rcases AE.mp hl with e|hl
   .subst e;have:=ke l;simp only[JV,a8d,h,CF,AJ,BI,BW];omega
   .have:=ih hl;simp only[JV];by_cases L:Uv x p=true
    .simp only[L,Ry L h,CF,AJ];omega
    .by_cases hy:Uv x q=true
     .simp only[L,hy,CF,AJ];show"#)";omega
     .simp only[L,hy];show"#)";exact this
 have:=TK ks hp;omega
def a6v{ks:fN_}{p q:dB!}(hp:p∈ks)(hq:q∈ks):decide (Qx ks p<Qx ks q)=Uv p q:=by
 cases h:Uv p q with
 |true=>exact BK (dQ hp h)
 |false=>
  refine AW λz=>?_;by_cases e:p=q
  .subst e;omega
  .have:=dQ hq (uU e h);omega
end
section
open Classical
variable{h:Heap}
def Ny.inj{a b c d:Int}(x:Ny h v a b)(y:Ny h v c d):Y!=(c,d):=by
 obtain⟨p,o,n,t,u,rfl,B,_,Y⟩:=x;obtain⟨p',o',n',t',u',e,j9,_,nv⟩:=y;cases e;rw[B]at j9;cases j9;rw[Y]at nv;injection nv with h3 _
 have:=congrArg Array.toList h3;simp at this;rw[this.1.1,this.2.1]
nonrec def Wh(h:Heap)(v:Value):Int×Int:=if x:∃a b,Ny h v a b then(x.choose,x.choose_spec.choose)else(0,0)
def bX{a b:Int}(x:Ny h v a b):Wh h v=Y!:=by have z:∃a b,Ny h v a b:=⟨a,b,x⟩;unfold Wh;rw[dif_pos z];exact z.choose_spec.choose_spec.inj x
def fS{kf:D->Int×Int}{ay:lj_}{og a0:cp!}(ha:hL!=ay.map b!)(hk:∀q∈ay,Ny h q.1.1 (kf q.2).1 (kf q.2).2)(nd:(qi_).Nodup)(hp:og.Perm a0)
  (hu:Up A2_ og a0.size):∃L':List (Keyed×D),L'.Perm ay/\og.toList=L'.map b!/\L'.map A_=Qv kf qi!:=by
 have br:og.toList.Perm hL!:=Array.perm_iff_toList_perm.mp hp;obtain⟨L',B,Y⟩:=b4s br ha;refine⟨L',B,Y.symm,aU ?_ (Ro nd) ((B.map _).trans (Ev _).symm)⟩;have fq:((L'.map A_).map kf).Nodup:=(((B.map _).map _).nodup_iff).mpr nd;unfold fI;rw[HH];intro i j hi hj NT;have dw:i<fO!:=by simpa using hi
 have qc:j<fO!:=by simpa using hj
 have hsz:og.size=fO!:=by rw[<-CK,<-Y,AU]
 have bj:a0.size=fO!:=by rw[<-CK,ha,AU,B.length_eq]
 have NU:∀k (cv:k<fO!),rk A2_ og k=Qx qi_ (kf L'[k].2):=λk cv=>by
  unfold rk;have e:og[k]?=some L'[k].1:=by
   rw[<-ET,<-Y,BS,BB cv];rfl
  rw[e];show Qx _ (Wh h L'[k].1.1)=_;rw[bX (hk L'[k] A3_)]
 have jl:=hu i j (FK NT) a!;rw[NU i dw,NU j qc]at jl;simp only[List.getElem_map];have mem:∀k (cv:k<fO!),kf L'[k].2∈(qi!).map kf:=λk cv=>AM (AM A3_);have ne:kf L'[i].2≠kf L'[j].2:=λe=>by
  have q:=(List.getElem_inj (i:=i) (j:=j) (h₀:=by simpa using dw) (h₁:=by simpa using qc) fq).mp cT_;omega
 cases am:Uv (kf L'[i].2) (kf L'[j].2)with
 |true=>rfl
 |false=>
  have:=dQ (mem j qc) (uU ne am);omega
end
def a5t(a v:Value):argsOk "list.sort" A5_:=by unfold argsOk;kernel_rfl
def xC(a v:Value):argsOk "sorted" A5_:=by unfold argsOk;kernel_rfl
section
variable{X:Cx}{J:List (Addr×Obj)}{Z:St}{G H:Hp}{s:Shared}{A:Around}{E:Value->Shared->Prop}
def c0a{k:Nat}{sp:Sp}{Q:VK}(F:Km X.prog X.w X.K X.mg X.base iL k f fd ps sp)(hr:gt_)(O:jT_)(e0:oG X.prog X.w X.K X.mg X.base A X.stack s H)
  (I:d!)(r:eB!)(h:sp vs H Q E0):wpAny e_ A (call af_ us) aJ_ E s:=by
 have hl:(us++[]).length=S_:=by rw[BL,<-r.length];exact F.len _ _ _ _ h
 have cg:=O s us I.kIn hl;rw[BL]at cg;refine wpAny_call (JH (F.run A X.stack s H c9_ us vs Q E0 hr e0 cg r h) λr s' hq=>?_);cases r with
 |error e=>exact hq.elim
 |ok fl=>
  cases fl with
  |ret u=>exact I.after hq
  |next=>exact False.elim hq
  |brk=>exact False.elim hq
  |cont=>exact False.elim hq
nonrec def Yc:D->Option hN!
 |.tup [.int a,.int b]=>some Y!
 |_=>none
def zL{a b:Int}(I:d!)(sub:L_)(r:bT!)(e:Yc d=some Y!):Ny s.heap u a b:=by
 unfold Yc at e;show"!5"
 .cases e;obtain⟨v,r,ru⟩:=r;show"!]";cases ru;show"!6";cases Bp r1;cases Bp r2;show"#9";obtain⟨x,y,rfl,⟨t,rfl⟩,⟨u,rfl⟩⟩:=a6f rv;exact⟨p,o,n,t,u,rfl,B,Y,h3⟩
 .cases e
nonrec def Zv(g:W_):List D->Option (List hN!)
 |[]=>some []
 |d::r=>(g [d]).bind λx=>(Yc x).bind λk=>(Zv g r).map (k::·)
def d1h{oc':Obj}{h':Heap}{t':Nat}(I:Inv X (J++[et_,(c,oc)]) Z H s)(hc:Qk X J H c)(ir:a≠c)(kp:∀b o,b≠c->s.heap.get? b=some o->h'.get? b=some o)(ho:h'.get? c=some oc')(hd:∀v,oc'.data≠.cell v):
  Inv X (J++[et_,(c,oc')]) Z H {s with heap:=h',toks:=t'}:=by
 have pa:=I.pin et_ (AS _ c_);have I1:Inv X qk! Z H s:=I.pins_of λp hp=>I.pin p (AS _ (by
  rcases AR.mp hp with z|z
  .exact BG _ z
  .exact AS _ (by simp at z;simp[z])))
 have kj:∀b∈[c],Qk X qk! H b:=λb O=>by
  have e:b=c:=by simpa using O
  subst e;obtain⟨f0,f1,f2,f3,f4,f5⟩:=hc;refine⟨f0,f1,f2,f3,f4,cr_⟩;rcases AR.mp hp with z|z
  .exact f5 p h7_
  .rcases AR.mp z with z|z
   .exact f5 p (AS _ z)
   .have:p=et_:=by simpa using z
    rw[this];exact ir
 have I2:Inv X qk! Z H {s with heap:=h',toks:=t'}:=Ot I1 kj λb o O e=>kp b o ge! e;refine I2.pins_of λp hp=>?_;rcases AR.mp hp with z|z
 .exact I2.pin p (AS _ h7_)
 .rcases AE.mp z with z|z
  .subst z;exact I2.pin _ fP_
  .have:p=(c,oc'):=by simpa using z
   subst this;exact⟨ho,hc.1,hc.2.1,hc.2.2.1,hd⟩
def rQ{k:Nat}{ps:k!}{g:W_}{body:Value->PUnit->Sem zL!}{Q:zI_}(F:A6_)(hr:ql!)(O:jT_)(li:S_=1)(ir:a≠c)
  (ph:∀x (R:ForInStep PUnit->Shared->Prop) s,wpAny e_ X.A.in1.in1 (call af_ [x]) (λk s'=>wpAny e_ X.A.in1.in1 (Builtin.List.listUpdate (.ref c) (·.push k)) (λ_ s2=>R (.yield ⟨⟩) s2) E s') E s->wpAny e_ X.A.in1.in1 (body x ⟨⟩) R E s):
  ∀{ds:b_} {us:h_} {kd:b_} {ku:h_} {n:Nat} {ks:fN_} {s:Shared} {G H:Hp},Inv X (J++[et_,A7_]) Z H s->Cr G H->Paired cS_ ds us->Paired cS_ kd ku->Zv g ds=some ks->
   (∀H':Hp,H' c=none->Qk X J H' c)->qm!+f_<=1000->
   (∀s' H' G' qe tz n',Inv X (J++[et_,(c,seqObj "list" (ku++qe).toArray n')]) Z H' s'->Ed G H G' H'->Paired (Fy X.K G') (kd++tz) (ku++qe)->Paired qm_ tz ks->Q ⟨⟩ s')->
   wpAny e_ X.A.in1.in1 (forIn us ⟨⟩ body) Q E s
 |_,_,kd,ku,n,ks,s,G,H,I,sub,.nil,pk,e,st,hl,hq=>by
  rw[HI];cases e;refine AC (hq s H G [] [] n ?_ aP! ?_ .nil)
  .rw[BL];exact I
  .rw[BL,BL];exact pk
 |d::ds,u::us,kd,ku,n,ks,s,G,H,I,sub,.cons r t,pk,e,st,hl,hq=>by
  show"!v";obtain⟨v,rv,ru⟩:=r;rw[FP];simp only[AJ]at hl;refine AA (ph u _ s (Gn (c0a (vs:=[v]) (Q:=λv' H'=>∃G',Ed G H G' H'/\Bl X.K G' x v') F hr O I.env0.in1.in1 I np! ⟨li.symm,G,[d],x,sub,Bc.cons rv Bc.nil,e1,λv' G' H' x' r'=>⟨G',x',r'⟩⟩) λkv s1 ⟨v1,H1,I1,TM,G1,x1,r1⟩=>?_));have pc:=I1.pin A7_ fP_;refine GY pc.1 rfl ?_ lo_ (by simp only[Array.size_push,AN];rw[CH];omega);have e4:=IN pc.1 (·.push kv);have I2:=d1h (oc':=seqObj "list" (ku++[kv]).toArray (if(ku.toArray.push kv).size==ku.toArray.size then n else n+1)) (t':=s1.toks) I1 (st H1 pc.2.1) ir (λb o O e=>(uA_).trans e) (by rw[e4,List.push_toArray]) vI_;refine rQ F hr O li ir ph I2 x1.sub (Paired.mapP t λ_ _ z=>z.mono x1.g) (Ra (Paired.mapP pk λ_ _ z=>z.mono x1.g) (.cons ⟨v1,r1,TM⟩ .nil)) e3 st k0_ λs' H' G' qe tz n' I' x' p' k'=>?_;refine hq s' H' G' (kv::qe) (x::tz) n' ?_ (x1.trans x') ?_ (.cons e2 k')
  .rw[CQ]at I';exact I'
  .rw[CQ,CQ]at p';exact p'
end
nonrec def Px(g:W_)(d:D):Int×Int:=((g [d]).bind Yc).getD (0,0)
def mW{g:W_}:∀{ds:b_} {ks:fN_},Zv g ds=some ks->ks=ds.map eu_
 |[],_,e=>by cases e;rfl
 |d::r,ks,e=>by
  show"!v";rw[AH,<-mW e3];congr 1;unfold Px;rw[e1];show q=(Yc x).getD _;rw[e2];rfl
section
variable{X:Cx}{J:List (Addr×Obj)}{Z:St}{G H:Hp}{s:Shared}{A:Around}{E:Value->Shared->Prop}
def mF{P:Value->D->Prop}{R:D->Value->Prop}:∀{ku us:h_} {ds:b_},Paired P ku ds->Paired R ds us->∀q∈(hP!).zip ds,P q.1.1 q.2/\R q.2 q.1.2
 |_,_,_,.nil,.nil,q,h=>by simp at h
 |_,_,_,.cons p t,.cons r u,q,h=>by
  rw[HD,HD]at h;rcases AE.mp h with rfl|h
  .exact⟨p,r⟩
  .exact mF t u q h
def Qz{α β γ:Type}{R:cU_}{f:γ->α}{h:γ->β}:∀{l:List γ},(∀q∈l,R (f q) (h q))->Paired R hP_ (l.map h)
 |[],_=>.nil
 |q::r,hh=>.cons (hh q (AL ..)) (Qz λz hz=>hh z lf!)
def Mr{α β:Type}{R:cU_}:∀{l:K_} {m:dD_},Paired R l m->P!=m.length
 |_,_,.nil=>rfl
 |_,_,.cons _ t=>by rw[AJ,AJ,Mr t]
def fV{G:Hp}{kf:D->Int×Int}(hp:∀d u a b,Fy X.K G d u->Yc d=some Y!->Ny h u a b):∀{kd:b_} {ku:h_} {ds:b_},Paired cS_ kd ku->Paired qm_ kd (ds.map kf)->Paired (λv d=>Ny h v (kf d).1 (kf d).2) ku ds
 |_,_,[],.nil,_=>.nil
 |_,_,_::_,.nil,h=>by cases h
 |_,_,[],.cons _ _,h=>by cases h
 |_,_,_::_,.cons r t,.cons k u=>.cons (hp _ _ _ _ r k) (fV hp t u)
def d0q{st:SortSt}{us':h_}{ku:h_}{e e1:Nat}{P:lp!}(yz:(B_).map A_=oA!)(hz:us'.length<64)(NK:qm!<64)(hf:failedOf st=none)(ir:a≠c)
  (gc:qo_)(kj:Bc_)(I:Bd_)
  (hP:∀s' n',Inv X J Z H s'->s'.heap.get? a=some hQ!->P hQ_ s'):wpAny e_ A Be! P E s:=by
 have pa:=I.pin lp_ fP_;have pc:=I.pin Bd! fP_;unfold ksk_tail;show"#4";rw[yz];refine AA (GY pc.1 rfl ?_ lo_ cL!);refine AA (IQ ?_);have ea:(s.heap.update c Be_).get? a=some qp_:=(CT _ _ (AK ir)).trans pa.1;refine AA (seqEpoch_at ea rfl ?_);show"#)";refine AA (GY ea rfl ?_ cL! lo_);rw[hf];simp only[JO,BI,BW];have I1:Inv X J Z H s:=I.unpinned;refine AC (hP _ _ (Ot (wr:=[a,c]) (t':=s.toks) I1 lL_ λb o O q=>?_) (IN ea λ_=>oA!))
 .rcases AE.mp O with rfl|O
  .exact gc H pa.2.1
  .rw[lq!];exact kj H pc.2.1
 .have B:b≠a:=λz=>O (by rw[z];exact AL ..);have Y:b≠c:=λz=>O (by rw[z];exact AD _ (AL ..));exact(CT _ _ (AK B)).trans ((CT _ _ (AK Y)).trans q)
def d7c{g:W_}{ds:b_}{us ku:h_}{e e1:Nat}{P:lp!}(nz:f_<64)(nd:(ds.map eu_).Nodup)(ir:a≠c)
  (gc:qo_)(kj:Bc_)(I:Bd_)(sub:L_)
  (pu:qq!)(pk:Paired cS_ kd ku)(kk:Paired qm_ kd (ds.map eu_))
  (hP:∀s' us' n',Inv X J Z H s'->Paired cS_ qq_ us'->s'.heap.get? a=some hQ!->P hQ_ s'):wpAny e_ A (ksk_end a false us.toArray e1 (.ref c) ku.toArray) P E s:=by
 have z:=fV (X:=X) (h:=s.heap) (λd u a b r q=>zL I sub r q) pk kk;have l1:ar!=f_:=(Mr pu).symm;have l2:qm!=f_:=Mr z;have mem:=mF z pu;have jp:(lq_).toList=(hR!).map b!:=by
  rw[ksk_zip,Bh!]
 have hd:(hR!).map A_=ds:=List.map_snd_zip qr_;have fin:∀{L':lj_} {st:SortSt},L'.Perm hR!->(B_).toList=L'.map b!->L'.map A_=Qv eu_ ds->failedOf st=none->wpAny e_ A Be! P E s:=λ{L' st} B Y h3 h4=>by
  refine d0q (us':=L'.map (·.1.2)) ?_ (by rw[AU,B.length_eq,DB,DB];omega) a! h4 ir gc kj I λs' n' I' e'=>hP s' _ n' I' ?_ e'
  .apply Bh_;rw[Array.toList_map,Y,CB];rfl
  .rw[<-h3];exact Qz λq hq=>(mem q (B.mem_iff.mp hq)).2
 unfold ksk_end;show"#4";show"#)";by_cases Y:ka_<2
 .rw[AQ Y,AQ Y];refine AA ac_;rw[StateT.run_pure];refine AA ac_;show"#4";refine fin (L':=(hP!).zip ds) (GN _) jp ?_ rfl;rw[hd];rw[AN,l1]at Y
  match ds,Y with
  |[],_=>rfl
  |[x],_=>rfl
  |_::_::r,Y=>simp at Y;omega
 .rw[AI Y,AI Y];rw[AN]at Y;refine AA (a0s (vs:=ku) Bi! (λz=>by rw[z]at l2;simp at l2;omega) ?_)
  .show"!k"
  .have hsz:(lq_).size=f_:=by rw[<-CK,jp,AU,DB,DB];omega
   have hk:∀q∈(hP!).zip ds,Ny s.heap q.1.1 (qt!).1 (qt!).2:=λq hq=>(mem q hq).1;have fq:(hR_).Nodup:=by rw[hd];exact nd
   refine AA (DF (b3h (kd:=b9l true) (a0:=ku.toArray.zip cE_) (r:=λp=>Qx hR_ Bj_) (Q:=λ_ h1=>(A!).Perm lq_/\failedOf h1=none/\Up (λp=>Qx hR_ Bj_) A! (lq_).size)
    (Bk!) Bl! Bl_ Bm! λh1 a1 a2 a3=>Bn!) ?_ λ_ _ e=>e)
   .rw[jp]at L hy;obtain⟨p,hp,rfl⟩:=AZ.mp L;obtain⟨q,a9,rfl⟩:=AZ.mp hy;refine mX lr_ ls! ?_;have mm:∀p∈(hP!).zip ds,Px g p.2∈((hR!).map A_).map eu_:=λp hp=>AM (AM hp);have hh:decide Bn_=Uv (Px g p.2) qt!:=by
     show"#E"
    have oi:Q (decide Bn_) s:=hq;rw[hh]at oi;exact oi
   .show"!G";exact fin b1 b2 Bo_ a2
def d0n{k:Nat}{ps:k!}{g:W_}(F:A6_)(hr:ql!)(O:jT_)(li:S_=1)
  {us:h_}{ds:b_}{n:Nat}{ks:fN_}{P:lp!}(I:d!)(sub:L_)(pu:qq!)(ha:Bp!)(iu:hZ!)
  (gc:qo_)(ek:Zv g ds=some ks)(nd:ho!)(nz:f_<64)
  (hP:∀s' H' G' us' n',Inv X J Z H' s'->Ed G H G' H'->Paired (Fy X.K G') qq_ us'->H' a=none->s'.heap.get? a=some hQ!->P hQ_ s'):
  wpAny e_ X.A.in1.in1 (ksk_tree a af_ false) P E s:=by
 have l1:ar!=f_:=(Mr pu).symm;have TN:=mW ek;obtain⟨e1,t3⟩:∃e1,(s.heap.update a (Obj.mapSeq λ_=>(#[]:Array Value))).get? a=some (seqObj "list" #[] e1):=Bq!;unfold ksk_tree;refine AA Bq_;refine AA Br!;refine AA Br_;refine AA Bs!;refine AA (JY ?_ cL!);refine CC ?_;have hsz:(cq_).objs.size=p!+1:=by rw[size_push',Heap.size_update]
 show wpAny _ _ (ksk_rest a af_ false us.toArray e1 (.ref (cq_).objs.size)) P E {s with heap:=(cq_).push cr!};have jz:(qu_).get? (cq_).objs.size=some cr!:=BD _ rfl;rw[hsz]at jz ⊢;have ir:a≠p!+1:=BV (Nat.lt_succ_of_lt (BF ha));have kj:∀H':Hp,H' ac!=none->Qk X J H' ac!:=λH' q=>I.fpOk (HS _) q;have md:(qu_).get? a=some qp_:=AG _ (AG _ t3);have I1:Inv X J Z H {s with heap:=(cq_).push cr!}:=
  Ot (wr:=[a]) (t':=s.toks) I (λb O=>by rw[lq!];exact gc H iu) λb o O q=>AG _ Bt!
 have fa:=gc H iu;have fc:=kj H tE_;have I2:Inv X (J++[lp_,(p!+1,seqObj "list" (vH!).toArray 0)]) Z H {s with heap:=(cq_).push cr!}:=I1.pins_of λp hp=>by
  rcases AR.mp hp with z|z
  .exact I1.pin p (AS _ z)
  .rcases AE.mp z with rfl|z
   .exact⟨md,iu,fa.2.1,fa.2.2.1,jD_⟩
   .rw[bX_];exact⟨jz,fc.1,fc.2.1,fc.2.2.1,jD_⟩
 generalize p!+1=c at *;unfold ksk_rest;refine AA hg_
 first
  |rw[List.forIn_toArray]
  |(rw[<-Array.forIn_toList];simp only[List.toList_toArray])
  |rw[<-Array.forIn_toList]
 refine AA (DF (rQ (E:=vJ_) (Q:=λ_ s'=>wpAny e_ X.A.in1.in1 _ P E s') F hr O li ir (λx R s' L=>?_) I2 sub pu .nil ek kj (by rw[EG];omega) λs' H' G' qe tz n' I' x' p' k'=>?_) AV_ λ_ _ z=>z.elim)
 .refine AA (HF (DF L (λkv s2 hk=>?_) λ_ _ z=>z.elim));show"#4";exact AA (DF hk (λ_ s3 z=>AC z) λ_ _ z=>z)
 .rw[CZ]at I';rw[CZ,CZ]at p';have pc:=I'.pin (c,seqObj "list" qe.toArray n') fP_;have pa:=I'.pin lp_ fP_;refine AA (IY pc.1 rfl ?_);rw[TN]at k' nd;exact d7c nz nd ir gc kj I' x'.sub (Paired.mapP pu λ_ _ z=>z.mono x'.g) p' k' λs3 us' n3 I3 p3 e3=>hP s3 H' G' us' n3 I3 x' p3 pa.2.1 e3
nonrec def c5s(g:W_)(ds:b_):Option aG_:=(Zv g ds).bind λks=>if ho!/\f_<64 then some qq_ else none
nonrec def a5j(g:W_)(fa:d_):Ag->Option D:=λρ=>(d8_).bind λd=>match d with
 |.lst ds=>(c5s g ds).map D.lst
 |_=>none
def Vg{K:W.Frag}:∀{ds:b_} {vs:k_} {us:h_},Bc K G ds vs->Ce vs us->Paired fR_ ds us
 |[],vs,us,r,p=>by cases Fq r;cases p;exact .nil
 |d::ds,vs,us,r,p=>by
  obtain⟨v,t,rfl,r1,r2⟩:=Dc r;cases p with
  |cons a b=>exact .cons ⟨v,r1,a⟩ (Vg r2 b)
def Vn{K:W.Frag}:∀{ds:b_} {us:h_},Paired fR_ ds us->∃vs,Bc K G ds vs/\Ce vs us
 |_,_,.nil=>⟨[],Bc.nil,.nil⟩
 |_,_,.cons ⟨v,r,p⟩ t=>let⟨vs,r2,p2⟩:=Vn t;⟨v::vs,Bc.cons r r2,.cons p p2⟩
def a6o{us':h_}{n':Nat}{s0:Shared}{H0:Hp}{ds:b_}{Q:VK}(I0:Inv X J Z H0 s0)(I:d!)(sub:L_)(hs:Ap_<=a)(pu:Paired cS_ ds us')(hz:f_<=sizeLine)(ho:s.heap.get? a=some hQ!)(hn:hZ!)
  (hQ:∀v G' H',Ed G H G' H'->Bl X.K G' cd! v->Q v H'):EP X J Z Q ab_ s:=by
 obtain⟨vs,r,p⟩:=Vn pu;have f:=I0.fpOk hs hn;refine⟨dT!,upd H a dj_,I.track ho p (by rw[<-Aq r];exact hz) hn ?_ f.2.1 f.2.2.2.2.1 f.2.2.2.2.2,rfl,hQ _ _ _ (Ed.laid sub hn) ?_⟩
 .exact BN I0.sz hs
 .exact Bl.lst (Jf.of Db) (r.mono (λb u e=>by rw[Bn (λz=>by rw[z]at e;rw[sub _ _ e]at hn;cases hn)];exact e))
def sK:bootBuiltins "sorted"=some lt_:=by decide+kernel
def sV{us:h_}{Q:p_}(hl:s.heap.IsList l cE_)(hz:ar!<64)
  (h:wpAny e_ X.A.in1.in1 (ksk_tree ac! af_ false) (λfin s'=>∃v,fin=.done (.ret v)/\Q (.ref ac!) s') E {s with heap:=(lu!).push lu_}):
  wpAny e_ X.A (call lt_ [.ref l] [(Str.ofString "key",.ref f)]) Q E s:=by
 refine call_function_entry_kw kind_sorted plain_sorted entry_sorted (xC _ _) ?_;unfold Builtin.«sorted»;refine AA (m:=qv_) ac_;refine AA (collect_list hl ?_ qw_);refine AA (JY ?_ qw_);have hsz:(lu!).objs.size=p!+1:=by
  rw[Heap.size_update,size_push']
 have la:((lu!).push lu_).get? ac!=some lu_:=by
  rw[<-hsz];exact BD _ rfl
 show wpAny _ _ _ _ _ {s with heap:=(lu!).push lu_};rw[hsz];refine AA (CC (wpAny_call_entry_kw slot_list_sort qx_ entry_list_sort ?body (a5t _ _)))
 case body=>
  rw[ksk_t1];refine DF h (λfin s' hq=>?_) λ_ _ z=>z;obtain⟨v,rfl,hq⟩:=hq;exact⟨v,rfl,AC ⟨_,rfl,hq⟩⟩
variable{own:List Nat}{fa:Ag->Option D}{e:Expr}{pos p p2 kp:Pos}{x:Str}
def b7w{k:Nat}{ps:k!}{g:W_}(F:xj_)(hr:ql!)(TQ:R_)(y8:Gl X "sorted")(TR:X.mg "sorted"=none)(ha:DE X own e fa)(li:S_=1:=by rfl)(be:F_:=by decide)
  (he:j3!:=by rfl):
  DE X own (.Call (.Name "sorted" p) [e] [⟨some "key",cH!,kp⟩] pos) (a5j g fa):=⟨by
 obtain⟨σ,fd,B,Y,h3,h4⟩:=F;intro J s Z H Q I ⟨G,ρ,d,er,e1,kq⟩;obtain⟨d0,e2,e1⟩:=AB.mp e1;cases d0 with
 |lst ds=>
  obtain⟨r9,e3,rfl⟩:=AO.mp e1;obtain⟨ks,e4,e5⟩:=AB.mp e3;have p6:ho!/\f_<64:=by
   by_cases z:ho!/\f_<64
   .exact z
   .rw[AI z]at e5;cases e5
  rw[AQ p6]at e5;cases e5;have da:=(Ah ha Au he).ok;refine EX (Rc I y8 TR sK ?_ c! c!);refine callWith_kw (Gn (da pos J s Z H _ I ⟨G,ρ,[.lst ds],er,by unfold Ad An;rw[e2];rfl,λvs G1 H1 x1 r1=>(⟨G1,x1,r1⟩:∃G1,Ed G H G1 H1/\Bc X.K G1 [.lst ds] vs)⟩) λus s1 ⟨vs,H1,I1,r,G1,x1,r1⟩=>?_) qz! qz! rfl rfl;refine kws_cons (Te I1 TQ h3 (kws_nil ?_) be);obtain⟨v,t,rfl,rv,rr⟩:=Dc r1;cases Fq rr;obtain⟨l,xs,rfl,sq,rx⟩:=Cp rv;obtain⟨its,hv,pl,hz⟩:=I1.list (x1.sub.seq sq);cases r with
  |cons ra rb=>
   cases rb;cases ra;show wpAny e_ X.A (call lt_ [.ref l] [(Str.ofString "key",.ref σ)]) _ _ s1;have lz:e2_=f_:=by rw[<-hv.length,<-Aq rx]
   obtain⟨nn,sl,ho⟩:=Zj pl;refine sV (us:=its) ⟨_,ho,rfl,nn,rfl⟩ (by rw[lz];exact p6.2) ?_;have keep:∀b o,s1.heap.get? b=some o->(qA_).get? b=some o:=λb o q=>by
    have am:b<z_:=BF q;exact AG _ ((Heap.get?_update_ne _ _ _ _ (BV am)).trans ((Heap.get?_push_ne _ _ _ (BV am)).trans q))
   have hsz:(qz_).objs.size=z_+1:=by
    rw[Heap.size_update,size_push']
   have la:(qA_).get? (z_+1)=some qA!:=by
    rw[<-hsz];exact BD _ rfl
   have I2:=I1.kept (t':=s1.toks) keep;have b6:z_<=z_+1:=HS _;refine d0n B hr Y li I2 x1.sub (Vg rx hv) la (I1.hok.fresh b6) (λH' q=>I1.fpOk b6 q) e4 p6.1 p6.2 λs3 H3 G3 us3 n3 I3 x3 p3 TU y9=>oN_;exact a6o I1 I3 x3.sub b6 p3 qB! y9 TU λv G4 H4 x4 r4=>kq v G4 H4 (x1.trans (x3.trans x4)) r4
 |_=>cases e1⟩
end
def a6n{es:aa!}{ep:Nat}(hd:Ah!):W.KdlSrc P w "dict" d d es.length pZ! (λh=>fJ h d es ep) where
 type:=λ_ hm=>hm.typeIs
 there:=λ_ hm=>let⟨_,ho,_⟩:=hm;⟨BF ho,BF ho⟩
 keep:=λ_ _ hm hk=>hm.at λo e=>hk d aB_ o e
 notList:=by decide
 notTuple:=by decide
 hint:=λ_ _ _ _ hm hq=>W.kdl_hint_dict hm.typeIs hq
 iter:=λ_ _ hh hm=>⟨_,_,(λ_ _ hq=>b6s hd hm hq),a9l hh _ d (let⟨_,ho,_⟩:=hm;BV h2!) es ep,⟨dO!,hm.at λo e=>AG _ e⟩⟩
section
variable{X:Cx}{J:List (Addr×Obj)}{Z:St}{G H:Hp}{s:Shared}{A:Around}{E:Value->Shared->Prop}
def c7s{K:W.Frag}{kvs:g!}{es:aa!}{acc:ab!}(ok:fz!)(hi:qC!):Paired fR_ fy_ hV!:=by
 have ea:hV!=es.map kz!:=by
  apply JQ;intro i;rw[BS];by_cases h:i<af!
  .have B:i<acc.size:=by rw[hi.1];exact h
   show"!l"
  .rw[qC_,CL a!];rfl
 rw[ea];have:∀{kvs:g!} {es:aa!},Paired qF! kvs es->Paired fR_ fy_ ev_:=λ{kvs es} h=>by
  induction h with
  |nil=>exact .nil
  |cons a _ ih=>exact .cons a ih
 exact this qD_
nonrec def aI(d:D):Int×Int:=(Yc d).getD (0,0)
nonrec def b2y(ds:b_):Option aG_:=if lz_=true/\(n1_).Nodup/\f_<64 then some n3_ else none
def d0m{us:h_}{ds:b_}{n:Nat}{P:lp!}(I:d!)(sub:L_)(pu:qq!)(ha:Bp!)(iu:hZ!)
  (gc:Qk X J H a)(ek:lz_=true)(nd:(n1_).Nodup)(nz:f_<64)
  (hP:∀s' us' n',Inv X J Z H s'->Paired cS_ n3_ us'->s'.heap.get? a=some hQ!->P hQ_ s'):
  wpAny e_ A (Builtin.«list.sort» nu!) P E s:=by
 have l1:ar!=f_:=(Mr pu).symm;obtain⟨e1,t3⟩:∃e1,(s.heap.update a (Obj.mapSeq λ_=>(#[]:Array Value))).get? a=some (seqObj "list" #[] e1):=Bq!;rw[list_sort_plain];refine AA Bq_;refine AA Br!;refine AA Br_;refine AA Bs!;refine AA (JY ?_ cL!);refine CC ?_;show wpAny _ _ _ P E {s with heap:=(cq_).push cr!};have I1:Inv X J Z H {s with heap:=(cq_).push cr!}:=
  Ot (wr:=[a]) (t':=s.toks) I qG! λb o O q=>AG _ Bt!
 have md:(qu_).get? a=some qp_:=AG _ (AG _ t3);generalize (cq_).push cr!=h3 at I1 md ⊢;have pk:∀d∈ds,Yc d=some (aI d):=λd hd=>by
  have:=DQ.mp ek d hd;unfold aI;cases q:Yc d with
  |none=>rw[q]at this;cases this
  |some z=>rfl
 have z:Paired qG_ us ds:=by
  have gen:∀{ds:b_} {us:h_},Paired cS_ ds us->(∀d∈ds,Yc d=some (aI d))->Paired qG_ us ds:=λ{ds us} h=>by
   induction h with
   |nil=>exact λ_=>.nil
   |cons r _ ih=>exact λhk=>.cons (zL I1 sub r (hk _ (AL ..))) (ih λd hd=>hk d (AD _ hd))
  exact gen pu pk
 have mem:=mF z pu;have jp:(fW!).toList=(ew!).map b!:=by
  rw[ksk_zip,Bh!]
 have hd:(ew!).map A_=ds:=List.map_snd_zip qr_;have fin:∀{L':lj_} {st:SortSt},L'.Perm ew!->(B_).toList=L'.map b!->L'.map A_=Qv aI ds->failedOf st=none->
   P hQ_ {s with heap:=h3.update a (Obj.mapSeq λ_=>(B_).map A_)}:=λ{L' st} b1 b2 b3 b4=>by
  have yz:(B_).map A_=(qH_).toArray:=by
   apply Bh_;rw[Array.toList_map,b2,CB];rfl
  rw[yz];refine hP _ _ _ (Ot (s:={s with heap:=h3}) (wr:=[a]) (t':=s.toks) I1 qG! λb o O q=>(Bs_).trans q) ?_ (IN md λ_=>(qH_).toArray);rw[<-b3];exact Qz λq hq=>(mem q (b1.mem_iff.mp hq)).2
 have NV:∀{L':lj_} {st:SortSt},L'.Perm ew!->(B_).toList=L'.map b!->((B_).map A_).size<=sizeLine+1:=λ{L' st} b1 b2=>by
  rw[Array.size_map,<-CK,b2,AU,b1.length_eq,DB,DB,CH];omega
 by_cases Y:ka_<2
 .rw[AQ Y,AQ Y];refine AA ac_;show"#4";rw[StateT.run_pure];refine AA ac_;show"#4";refine AA qI!;refine AA (GY md rfl ?_ cL! (NV (L':=(fW_).zip ds) (GN _) jp));simp only[failedOf,JO,BI,BW];refine AC (fin (L':=(fW_).zip ds) (st:=SortSt.mk' general' fW! #[] 7 none) (GN _) jp ?_ rfl);rw[hd];rw[AN,l1]at Y
  match ds,Y with
  |[],_=>rfl
  |[x],_=>rfl
  |_::_::r,Y=>simp at Y;omega
 .rw[AI Y,AI Y];rw[AN]at Y;refine AA (a0s (vs:=us) Bi! (λz=>by rw[z]at Y;simp at Y) ?_)
  .show"!k"
  .have hsz:(fW!).size=f_:=by rw[<-CK,jp,AU,DB,DB];omega
   have hk:∀q∈(fW_).zip ds,Ny h3 q.1.1 (aI q.2).1 (aI q.2).2:=λq hq=>(mem q hq).1;have fq:(fX!).Nodup:=by rw[hd];exact nd
   refine AA (DF (b3h (kd:=b9l true) (a0:=us.toArray.zip cE_) (r:=λp=>Qx fX! (Wh h3 p.1)) (Q:=λ_ h1=>(A!).Perm fW!/\failedOf h1=none/\Up (λp=>Qx fX! (Wh h3 p.1)) A! (fW!).size)
    (Bk!) Bl! Bl_ Bm! λh1 a1 a2 a3=>Bn!) ?_ λ_ _ e=>e)
   .rw[jp]at L hy;obtain⟨p,hp,rfl⟩:=AZ.mp L;obtain⟨q,a9,rfl⟩:=AZ.mp hy;refine mX lr_ ls! ?_;have mm:∀p∈(fW_).zip ds,aI p.2∈((ew!).map A_).map aI:=λp hp=>AM (AM hp);have hh:decide qJ_=Uv (aI p.2) (aI q.2):=by
     show"#E"
    have oi:Q (decide qJ_) {s with heap:=h3}:=hq;rw[hh]at oi;exact oi
   .show"!G";refine AA qI!;refine AA (GY md rfl ?_ cL! (NV b1 b2));rw[a2];simp only[JO,BI,BW];exact AC (fin b1 b2 Bo_ a2)
nonrec def b3s(f:List V->VK->Hp->Prop):List V->Hp->VK->Prop:=λxs H Q=>∃d es ep ys,xs=[.ref d]/\H d=some dz!/\Ce ys ev_/\f ys Q H
def gJ{es:aa!}{acc:ab!}(hi:qC!):hV!=es.map kz!:=by
 apply JQ;intro i;rw[BS];by_cases h:i<af!
 .have B:i<acc.size:=by rw[hi.1];exact h
  show"!l"
 .rw[qC_,CL a!];rfl
def b9a(hc:bf_):Oq X a8! qK!:=by
 intro J s Z H xs us Q I r ⟨d,es,ep,ys,e1,e2,hv,k⟩;subst e1;cases r with
 |cons ra rb=>
  cases rb;cases ra;obtain⟨⟨h3,h4,h5⟩,_⟩:=qK_;refine W.kdl_call (a6n h4) bg! h3 fA_ λh' tk acc c hk hs hi=>?_;have hn:H p!=none:=I.hok.fresh x_;have f:=I.fpOk (H':=H) x_ hn;refine⟨cA!,upd H s.heap.objs.size aU!,?_,rfl,k _ hn⟩;have ia:=gJ hi;refine(I.kept (t':=tk) hk).track (us:=hV!) (n:=c) (by rw[Array.toArray_toList];exact hs) (by rw[ia];exact hv) ?_ hn I.sz f.2.1 f.2.2.2.2.1 f.2.2.2.2.2;rw[hv.length,AU];exact Ek h5
nonrec def b6l(M:Mh):List D->Option D
 |[d]=>(Il M d).map λq=>.lst la_
 |_=>none
def rN{K:W.Frag}{kvs:g!}{es:aa!}(ok:fz!):∃ys,Bc K G fy_ ys/\Ce ys ev_:=by
 have:∀{kvs:g!} {es:aa!},Paired qF! kvs es->Paired fR_ fy_ ev_:=λ{kvs es} h=>by
  induction h with
  |nil=>exact .nil
  |cons a _ ih=>exact .cons a ih
 exact Vn (this qD_)
def d3p{K:W.Frag}:oH P w K qK! b6l:=by
 show"!Y";unfold b6l at e;show"!5"
 .obtain⟨q,e1,rfl⟩:=AO.mp e;show"!=";exact⟨q.1,es,q.2.2,ys,rfl,B,g2,λl hl=>k _ _ _ zo_ (Ew (sub.free hl) g1)⟩
 .cases e
nonrec def b3r(K:W.Frag):List V->Hp->VK->Prop:=λxs H Q=>∃G ds,Cr G H/\(∃d es ep,xs=[.ref d]/\H d=some dz!/\Paired fR_ ds ev_)/\lz_=true/\(n1_).Nodup/\f_<64/\∀v G' H',Ed G H G' H'->Bl K G' (.lst n3_) v->Q v H'
def pW(hc:bf_):Oq X lt_ (b3r X.K):=by
 intro J s Z H xs us Q I r ⟨G,ds,sub,⟨d,es,ep,e1,e2,hv⟩,q1,q2,q3,k⟩;subst e1;cases r with
 |cons ra rb=>
  cases rb;cases ra;obtain⟨⟨h3,h4,h5⟩,_⟩:=qK_;have lz:af!=f_:=by rw[Mr hv,AU]
  refine Calls.call_function_entry kind_sorted plain_sorted entry_sorted (args_sorted1 _) ?_;unfold Builtin.«sorted»;refine AA (m:=qv_) ac_;refine AA (W.kdu_collect (a6n h4) bg! h3 fA_ λh' tk acc hk hi=>?_);have ia:=gJ hi;refine AA (JY ?_ (by rw[ia,AU,CH];omega));rw[ia];have I1:=I.kept (t':=tk) hk;have la:(h'.push hY_).get? h'.objs.size=some hY_:=BD _ rfl;have I2:Inv X J Z H {s with heap:=h'.push hY_,toks:=tk}:=I1.kept (t':=tk) λb u q=>AG _ q;have hn:H h'.objs.size=none:=I1.hok.fresh x_;refine AA (CC (BX slot_list_sort qx_ entry_list_sort ?body (args_list_sort _)))
  case body=>
   refine d0m (s:={s with heap:=h'.push hY_,toks:=tk}) I2 sub hv la hn (I1.fpOk x_ hn) q1 q2 q3 λs3 us3 n3 I3 p3 y9=>⟨_,rfl,AC oN_⟩;exact a6o I1 I3 sub x_ p3 qB! y9 hn k
nonrec def kK(M:Mh):List D->Option D
 |[d]=>(Il M d).bind λq=>(b2y la_).map D.lst
 |_=>none
def b8d{K:W.Frag}:oH P w K (b3r K) kK:=by
 show"!Y";unfold kK at e;show"!5"
 .obtain⟨q,e1,e⟩:=AB.mp e;obtain⟨l,e2,rfl⟩:=AO.mp e;unfold b2y at e2;split at e2
  .rename_i hz;cases e2;show"!=";exact⟨G,_,sub,⟨q.1,es,q.2.2,rfl,B,Vg g1 g2⟩,hz.1,hz.2.1,hz.2.2,k⟩
  .cases e2
 .cases e
end
nonrec def yP(M:Mh):D->D
 |.fn a=>match M a with|some (.lst xs)=>.lst xs|_=>.fn a
 |d=>d
nonrec def neM(M:Mh)(x y:D):Option D:=Hw (yP M x) (yP M y)
def iR{P:Program}{w:World}{K:W.Frag}{M:Mh}{G H:Hp}(sub:L_)(m:bT_)(r:ce_):Bl K H (yP M d) v:=by
 cases d<;>first|exact r.mono sub|skip
 rename_i a;simp only[yP];split
 .rename_i xs hM;show"##";cases Kt r;exact Bl.lst (Jf.of B) (Y.mono sub)
 .exact r.mono sub
def c6z{P:Program}{w:World}{K:W.Frag}:OpM P w K (c6a K) neM:=by
 show"!C";unfold neM Hw at e;show"!5"
 .show"!O";exact qP!
 .cases e
nonrec def Gh(K:W.Frag)(C:Addr)(m qual:Str)(st:Stmt)(ps:k!):Prop:=∃σ fd,Fun K m qual st σ fd/\Js K fd ps []/\b1y K C m σ
nonrec def a2s(K:W.Frag)(mg:C!)(x:Str)(C:Addr)(qual:Str)(st:Stmt)(ps:k!):Prop:=mg x=some av_/\∃σ fd,Fun K "__init__" qual st σ fd/\Js K fd ps []/\Mk K C σ
section
variable{P:Program}{w:World}{K:W.Frag}{mg:Str->Option Value}{base h:Heap}{x qual:Str}{st:Stmt}{N ps:List Str}{k:Nat}{h2:List Nat}{q:WS}{C:Addr}
def Es(d:yi_)(S:dZ!)
  (O:∀{σ:Addr} {ae:Value} {A:Around} {outer:as!} {s:Shared} {H:Hp} {E:XK},Ax k oZ_->MSs (o0!).nox [] h2 bN! q):
  Yz P w K mg base Q! x ps k9!:=by
 obtain⟨σ,fd,F,hb,m⟩:=d;exact⟨σ,fd,lD!,hb,m,F.kp⟩
def Ee(c:Cls K C)(d:Gh K C x qual st ps)(S:dZ!)
  (O:qP_):
  Hv P w K mg base Q! C x ps k9!:=by
 obtain⟨σ,fd,F,hb,m⟩:=d;exact⟨c,σ,fd,m,lD!,hb⟩
def uJ(d:a2s K mg x C qual st ps)(S:dZ!)
  (O:qP_):
  b1x P w K mg base Q! x C ps k9!:=by
 obtain⟨m,σ,fd,F,hb,mk⟩:=d;exact⟨m,σ,fd,mk,lD!,hb⟩
def He{od an:a6_}{du:b7_}{kV:Value}
  (a:W.findIn K av_ x=some eO!)(i:mK!)(l:vn_)
  (c:i3!)(k:gI!)
  (b:vm_):Gh K C x qual st ps:=
 ⟨f,_,ks_,o1!,⟨a,i,k⟩⟩
def b5v{od an:a6_}{du:b7_}{kV:Value}(m:mg x=some av_)
  (a:sZ!)(i:mK!)(l:K.lookup f=some ⟨oc,od,.func qQ!,du⟩)
  (c:i3!)(k:gI!)(mm:s1!)(kc:W.keepIn K av_=true)
  (b:∀(kV bo pm:Value) (an:a6_) (ae ct:Value) (us:h_),ar!=S_->bindArgs qQ! c9_=pure c8_):a2s K mg x C qual st ps:=
 ⟨m,f,_,ks_,o1!,⟨mm,a,i,kc⟩⟩
def c1v(hd:c9w K mg x st [y])(S:As N [y] bA!)(gc:mg x=some e6_)
  (O:∀(base:Heap) (σ:Addr) (ae:Value) (A:Around) (outer:as!) (s:Shared) (H:Hp) (E:XK),Ax k oZ_->MSs (o0!).nox [] h2 bN! q):
  ∃fd:FuncData,(∀(s:Shared) (u:Value),BindsTo s fd js! [(y,u)])/\∀base:Heap,K.In base->base.Ns mainGlobals mg->Km P w K mg base iL Q! fa fd [y] (spM P w K 1 (Fj N 1 q)):=by
 obtain⟨f,fd,F,hb,m⟩:=hd;rw[gc]at m;cases m;exact⟨fd,λs u=>.of_eq (hb [u] rfl),λbase _ _=>jG F S λae A outer s H E hr=>O base _ ae A outer s H E hr⟩
def Yg{α:Type}{p:fZ!}(h:∀a,p [a]):∀us:List α,ar!=1->p us
 |[a],_=>h a
def aH{α:Type}{p:fZ!}(h:∀a b,p ag!):∀us:List α,ar!=2->p us
 |[a,b],_=>h a b
def us3{α:Type}{p:fZ!}(h:∀a b c,p cV_):∀us:List α,ar!=3->p us
 |[a,b,c],_=>h a b c
def us4{α:Type}{p:fZ!}(h:∀a b c d,p [a,b,c,d]):∀us:List α,ar!=4->p us
 |[a,b,c,d],_=>h a b c d
def us5{α:Type}{p:fZ!}(h:∀a b c d e,p [a,b,c,d,e]):∀us:List α,ar!=5->p us
 |[a,b,c,d,e],_=>h a b c d e
nonrec def M0:Mh:=λ_=>none
def c1u{g:WF}{H:Hp}{ns:D!}(hS:Jf K H a b8_)(hg:g lG! M0 λd _=>d=.bl true):spM P w K 1 g bh_ H js_ λ_ _ _=>False:=
 ⟨rfl,H,lG!,M0,_,Cr.refl H,⟨λa c e=>by cases e⟩,Bc.cons (Bl.lst hS (rV ns)) Bc.nil,hg,λd M' v G' H' r _ _ q=>by subst r;exact Fo q⟩
end
end DL
namespace L2
open PySem PySem.Spec PyProof.Rows
def c0q{X:Cx}{i:Nat}{tg:Expr}{scope:Scope}{pos:Pos}{NL:k!}{ix:j_}{wi:TI}{g:TG}{tt:TT}{te:TE}
  (hN:bt!)(dw:ai_)(L:bt_)
  (ce:df!)(b9:df_)(j4:∀y∈ca!,y.2=.local->scope.names.lookup y.1=some .local)
  (ic:gO!)(cap:de_)(calm:bf_)(az:mo!)
  (hg:gO_)(hi:vN_)(he:vO!)
  (hs:c6_:=by intro _;rfl)
  (j7:swapsWith h0_ (some im!) pos.line X.env=pure true:=by rfl)
  (hf:X.fn x=true\/X.env.scope.names.lookup x=some .local:=by first|exact .inl rfl|exact .inr rfl|assumption):
  PS X (.Assign [.Name x ie] h0_ pos) (c5q vO_ eF!):=by
 intro J s Z H D I h;show"!W"
 rw[exec_Assign_Name_used x ie _ pos j7];refine AA (IP gp_);unfold evalThenUse;refine AA (wpAny_comprehension_free (use:=some _) rfl hs bq.eq ce j4 vP!);obtain⟨it,fp,tn,ac,H2,e,I2,T,bg,f2,hw⟩:=Y;subst e;refine sF (RR:=λacc C=>compPost e_ X.A X.xe (some _) _ acc C) ce b9 bq cap calm (hg cl) (hi cl) (he cl) I2 T bg f2 hw λD' C us n ys H' s' I' eD rv ak nD hD hC jh nC ⟨m,hn⟩ fin=>?_;have ff:∀b,b<N_->b≠C/\b≠D':=λb O=>vQ_;have pp:∀x c,X.env.cells.lookup x=some c->c<N_:=λx c h=>let⟨_,_,ho,_⟩:=I2.cell x c h;BF ho;have rh:∀p∈X.pn++J,p.1<N_:=λp hp=>BF (I2.pin p hp).1;have ID:=I'.track (D:=D') (us:=us) (n:=n) eD rv ak nD (BN I2.sz hD) (AK (gP!).2) vT! λp hp=>(jE!).2;show wpAny e_ X.A (assign im! X.env (.ref D')) _ _ s';refine AA (m:=standAt ie) (IP ?_);refine wpAny_bindName (qF ID hN dw L (v:=.ref D') rfl (λs3 I3 ⟨a,sb,ha⟩=>?_) hf);have TV:a≠C:=by
  rcases ha with rfl|ha
  .exact(gP!).1
  .exact(ff _ (pp _ _ ha)).1
 refine⟨m,hn.sameBut sb (AK TV),λh' bu=>?_⟩;have TW:upd H' D' aU! C=none:=by rw[Bn (AK jh)];exact nC
 have IC:Inv X J (Z.set i (some (.ref D'))) (upd H' D' aU!) {s3 with heap:=h',toks:=s3.toks}:=I3.turned (it:=C) vR! TW (AK (gP!).1) vR_ vS_ λp hp=>(jE!).1;exact AC (AC ⟨_,_,IC,fin D' nD⟩)
end L2
namespace DL
open PySem PySem.Spec PyProof.Rows L2
section
variable{X:Cx}{own:List Nat}{tg:Expr}{fi:WI}{ft:WT}
def Xl{i:Nat}{scope:Scope}{pos p2:Pos}{NL:k!}{ix:j_}{g:TG}{bnd:ae_}{fe:WE}
  (hN:bt!)(dw:ai_)(L:bt_)
  (ce:df!)(b9:df_)(j4:∀y∈ca!,y.2=.local->scope.names.lookup y.1=some .local)
  (ic:gO!)(cap:de_)(m9:jL_)(calm:bf_)(az:pV!)
  (hg:gO_)(ng:oq!)(hi:z8!)(he:z8_)
  (bp:bm_:=by decide)(hs:c6_:=by intro _;rfl)
  (j7:swapsWith h0_ (some dm_) pos.line X.env=pure true:=by rfl)
  (hf:X.fn x=true\/X.env.scope.names.lookup x=some .local:=by first|exact .inl rfl|exact .inr rfl|assumption):
  MS X own own (.Assign [cH!] h0_ pos) (Az i z9!):=
 bI (c0q hN dw L ce b9 j4 ic cap calm az.ok hg hi wL_ hs j7 hf) λM0 G0 F0 E Z G H ρ M R sr e k1 k2=>⟨G,ρ,M,_,sr.st,e,λds ck M1 ac G1 H1 r1 x1 m1 fh=>by
  obtain⟨O,r1⟩:=r1;have ii:=sr.st.grow x1 m1;refine a9b O fh ng z9_ r1 λji ys M' G' H' r x m q _ p hp=>?_;exact k1 _ M' _ _ _ r ((((zU_).grow x m).grow (.ext g5_) (m.ext g5_)).set bp (Ew or! q))⟩
end
end DL
namespace DL
open PySem PySem.Spec PyProof.Rows L2
section
variable{X:Cx}{own:List Nat}{e a b o tg:Expr}{pos p2 p ag ab:Pos}{f fa fb fo:WE}
nonrec def xM(fo:WE):WE:=λρ M R=>fo ρ M λd M1=>Hi pC_ λq=>Hi (q.2[kV! - 1]?) λy=>R y (Cb M1 q.1 (.lst q.2.dropLast))
def oR{K:W.Frag}{G:Hp}{ds:b_}{vs:k_}(r:g6_):Bc K G ds.dropLast vs.dropLast:=by rw[List.dropLast_eq_take,List.dropLast_eq_take,Aq r];exact Xb _ r
def c1o(ho:cn_)(df:attributeBase o "pop" X.env c3_=eval o X.env:=by rfl)(dh:cA_:=by rfl):ME X own (.Call zz_ [] [] ab) (xM fo):=
 Ij (c6p FC PySem.F.slot_list_pop PySem.F.type_list_pop c7h ho.ok df dh) λZ G H Q ρ M R st e k=>
  ⟨G,ρ,M,_,st,e,λd M1 v G1 H1 r1 x1 m1 q1=>by
   obtain⟨⟨p,xs⟩,e1,r2⟩:=Ef r1;obtain⟨y,e2,r3⟩:=Ef r2;obtain⟨rfl,rfl,hM,vs,hH,hr⟩:=cQ m1 q1 e1;obtain⟨u,hu,ru⟩:=Kj hr e2;refine⟨.inl ⟨rfl,vs,Jf.of hH⟩,p,vs,u,rfl,rfl,hH,by rw[<-Aq hr];exact hu,?_⟩;exact k _ _ _ _ _ r3 (x1.trans (.write m1 x1.sub hM) m1) (m1.write hM ⟨_,Db,oR hr⟩) ru⟩
nonrec def lstM(M:Mh)(d:D):Option aG_:=match d with
 |.lst xs=>some xs
 |.fn p=>(match M p with|some (.lst xs)=>some xs|_=>none)
 |_=>none
def a8e{K:W.Frag}{M:Mh}{G H:Hp}(sub:L_)(m:bT_)(r:ce_)(e:lstM M d=some xs):∃p vs,v=.ref p/\Jf K H p vs/\Bc K G xs vs:=by
 cases d<;>first|(cases e;done)|skip
 .cases e;obtain⟨p,vs,rfl,q,rr⟩:=Cp r;exact⟨p,vs,rfl,jW_,rr⟩
 .show"#H";simp only[lstM]at e;show"!5"
  .rename_i xs hM;cases e;obtain⟨_,vs,B,Y⟩:=m.cell p _ hM;exact⟨p,vs,rfl,kR!,Y⟩
  .cases e
nonrec def xO(fa fb:WE):WE:=λρ M R=>fa ρ M λx M1=>fb ρ M1 λy M2=>Hi (lstM M2 x) λxs=>Hi (lstM M2 y) λys=>i_+M_<=big/\∀p,M2 p=none->R y! (Cb M2 p oa_)
def c1q(ha:aa_)(O:cl_):ME X own (.BinOp a .Add b pos) (xO fa fb):=
 Ij (a7m a7u ha.ok O.ok) λZ G H Q ρ M R st e k=>⟨G,ρ,M,_,st,e,λx M1 v G1 H1 r1 x1 m1 q1=>⟨G1,ρ,M1,_,st.grow x1 m1,r1,λy M2 u G2 H2 r2 x2 m2 q2=>by
  obtain⟨xs,e1,r2⟩:=Ef r2;obtain⟨ys,e2,hl,r2⟩:=Ef r2;obtain⟨p1,yr,rfl,s1,NW⟩:=a8e x2.sub m2 bU_ e1;obtain⟨p2,yh,rfl,s2,NX⟩:=a8e x2.sub m2 q2 e2;refine⟨p1,p2,yr,yh,rfl,rfl,s1,s2,by rw[<-Aq NW,<-Aq NX];exact Ek hl,cr_⟩;exact k _ _ _ _ _ (r2 p (m2.nocell hp)) ((cl!).trans (.laid x2.sub hp) m2) (m2.laid hp x2.sub ⟨_,Db,Fm NW NX⟩) Bl.fn⟩⟩
nonrec def eqM(M:Mh)(x y:D):Option D:=Cg (yP M x) (yP M y)
def c7a{K:W.Frag}:OpM P w K (c6e K) eqM:=by
 show"!C";unfold eqM Cg at e;show"!5"
 .show"!O";exact qP!
 .cases e
nonrec def uO:D->D->Option D
 |.str z,.int i=>if 0<=i/\i<=100/\dW_<=100 then some (.str (Txt.mul z i))else none
 |_,_=>none
def a7w{K:W.Frag}:Pb K c4f uO:=by
 show"!0";unfold uO at e;show"!5"
 .show"!5"
  .rename_i h;cases e;cases Dj rx;cases Bp ry;exact⟨_,_,rfl,rfl,zX h,g1_⟩
  .cases e
 .cases e
nonrec def wSl(fa:WE)(ol oh:jW!):WE:=λρ M R=>fa ρ M λx M1=>Hi (ol ρ) λl=>Hi (oh ρ) λh=>match x with|.lst xs=>R (.lst (Ge xs l h)) M1|_=>False
def b5x{lo hi:m7!}{ol oh:jW!}(ha:aa_)(hl:wy_)(hh:wz!):ME X own wz_ (wSl fa ol oh):=
 Ij wA! λZ G H Q ρ M R st e k=>⟨G,ρ,M,_,st,e,λx M1 v G1 H1 r1 x1 m1 q1=>by
  obtain⟨l,e2,r1⟩:=Ef r1;obtain⟨h,e3,r1⟩:=Ef r1;have ii:=st.grow x1 m1;refine⟨G1,ρ,l,ii.or,e2,λG2 H2 s2=>⟨G2,ρ,h,ii.or.grow s2,e3,wA_⟩⟩;have s4:=s2.trans s3;cases x<;>first|exact r1.elim|skip
  obtain⟨p,vs,rfl,q,rr⟩:=Cp ((q1.mono s2.g).mono s3.g);exact .inr ⟨p,vs,rfl,s4.sub.seq q,λp hp=>k _ _ _ _ _ r1 (x1.trans (.ext qZ!) m1) (m1.ext qZ!) (Ew (s4.sub.free hp) og_)⟩⟩
end
nonrec def d7k(K:W.Frag)(l:Addr)(n:Nat):It:=
 ⟨λi H=>i<n/\∃xs,Jf K H l xs/\i_=n,λi H x H'=>H'=H/\∀xs,Jf K H l xs->xs[n - 1 - i]?=some x,λi _=>i=n⟩
def b2r{K:W.Frag}{tg:Expr}(l it:Addr)(n:Nat):oB P w K tg (d7k K l n) [it] it (λi h=>h.IsRevIter it l ((n:Int) - 1 - (i:Int))) where
 mem:=by simp
 obj:=λi h st b O=>by
  have e:b=it:=by simpa using O
  subst e;show"!V"
 keep:=λi h h' st k=>st.at λo e=>k it c_ o e
 item:=by
  intro X hP hw hK hc i J s Z H E I hf st hg;subst hP hw hK;obtain⟨hi,xs,hq,hn⟩:=hg;obtain⟨its,rv,p,hz⟩:=I.list hq;have L:xs[n - 1 - i]?=some (xs[n - 1 - i]' a!):=BB a!;obtain⟨u,hu,ru⟩:=rv.get L;obtain⟨f0,f1,f2,f3,f4,f5⟩:=hf it c_;have e1:(n:Int) - 1 - (i:Int)=q0_:=by omega
  have ii:=st;rw[e1]at ii;refine wpAny_pyNext_rev_item ii p.isList (x:=u) ir! λh' h1 sb=>?_;have e2:q0_ - 1=(n:Int) - 1 - q1!:=by omega
  rw[e2]at h1;show"!D";exact⟨u,rfl,a8o (s:=ir_) e c d c! ⟨_,H,I1,ru,⟨rfl,mg!⟩,h1,is!⟩⟩
 done:=by
  intro X hP hw hK hc i J s Z H E I hf st hg;subst hP hw hK;obtain⟨f0,f1,f2,f3,f4,f5⟩:=hf it c_;have hg:i=n:=hg;have e1:(n:Int) - 1 - (i:Int)=-1:=by omega
  rw[e1]at st;exact wpAny_pyNext_rev_end bg! st λh' eb=>it!
 self:=λ_ _ _ _ _ st h=>wpAny_pyIter_revIter st h
section
variable{X:Cx}{own:List Nat}{e a b o tg:Expr}{fm:List Expr}{n1:Nat}{pos p2 p tp ag ab:Pos}{f fa fb fo:WE}
nonrec def a6c(f:WE):WI:=λρ M T=>f ρ M λd M1=>match d with
 |.lst xs=>T xs.reverse F! M1
 |_=>False
def c7l(hg:Gl X "reversed")(hm:X.mg "reversed"=none)(h:aa_)(hs:p1_:=by rfl)(av:p2!:=by rfl):
  MI X own tg (.Call (.Name "reversed" p) [a] [] pos) (a6c fa):=⟨by
 show"!m";refine Call_ (Rc I hg hm boot_reversed (CU (Gn (Gs h.ok Ku hs pos J s Z H (λvs H1=>∃v xs M1 G1,vs=[v]/\T xs.reverse F! M1/\XM M G H M1 G1 H1/\MR X.prog X.w X.K M1 G1 H1/\Bl X.K G1 I! v) I q2!) λus s1 ⟨vs,H1,I1,r1,v,xs,M1,G1,q1,t1,x1,m1,rr⟩=>?_) hs av))
 .cases d<;>first|exact r1.elim|skip
  exact q3!
 subst q1;obtain⟨l,ys,rfl,q,rl⟩:=Cp rr;obtain⟨u,rfl,ru⟩:=Uz r1;cases ru;have hq:Jf X.K H1 l ys:=x1.sub.seq q;obtain⟨its,rv,pl,hz⟩:=I1.list hq;refine call_reversed_list pl.isList ?_;have e1:((a7_:Nat):Int) - 1=((M_:Nat):Int) - 1 - c6!:=by
  have:=dM_;rw[AN];omega
 rw[e1];have az:(s1.heap.push q5!).IsRevIter s1.heap.objs.size l q4_:=dO!;refine wpAny_pyIter_revIter (s:={s1 with heap:=s1.heap.push q5!}) az ?_;refine⟨z_,[z_],_,_,H1,rfl,iu!,b2r l _ M_,az,bg_,q6!⟩
 .have e:b=z_:=by simpa using O
  show"!R"
 .intro i M' G' H' g1 g2 m' _;have hl:=Aq rl;have q':Jf X.K H' l ys:=g2.seq (g1.seq q);refine⟨cH_,λhi=>by rw[GW]at hi;show i=M_;omega⟩;have hi:i<i_:=by have:=(BA.mp hd).1;rwa[GW]at this
  rw[List.getElem?_reverse hi]at hd;obtain⟨v,gv,zc⟩:=Kj rl hd;refine⟨⟨r!,ys,q',rfl⟩,ed_⟩;obtain⟨rfl,hy⟩:=hy;have:=hy ys q';rw[<-hl]at this;rw[gv]at this;cases this;exact⟨G',Ed.refl g2,zc.mono g1⟩⟩
end
nonrec def d7m(K:W.Frag)(l:Addr):It:=
 ⟨λi H=>∃xs x,Jf K H l xs/\xs[i]?=some x,λi H v H'=>∃T x,v=.ref T/\H T=none/\(∀xs,Jf K H l xs->xs[i]?=some x)/\H'=upd H T (.tup [be!,x]),λi H=>∃xs,Jf K H l xs/\i_<=i⟩
def a3b{K:W.Frag}{fm:bu_}{n1:Nat}{tp:Pos}{e:Addr}(kg:e≠it):
  oB P w K ds! (d7m K l) [e,it] e (λi h=>Ar_/\h.IsListIter it l i) where
 mem:=by simp
 obj:=λi h st b O=>by
  simp only[AE,BO,DN]at O;obtain⟨⟨ah,s1⟩,o,s2,_,s3⟩:=st;rcases O with rfl|rfl
  .exact As!
  .exact⟨o,s2,λv z=>by rw[s3]at z;cases z⟩
 keep:=λi h h' st k=>by
  obtain⟨⟨ah,s1⟩,s2⟩:=st;exact⟨⟨ah,k e c_ _ s1⟩,s2.at λo q=>k it c_ o q⟩
 item:=by
  intro X hP hw hK hc i J s Z H E I hf st hg;subst hP hw hK;obtain⟨xs,x,hq,L⟩:=hg;obtain⟨its,rv,p,hz⟩:=I.list hq;obtain⟨u,hu,ru⟩:=rv.get L;obtain⟨⟨ah,s1⟩,s2⟩:=st;refine wpAny_pyNext_enum_item s1 s2 p.isList (x:=u) ir! kg λh' ho h1 hT hsz kp=>⟨_,rfl,wpAny_letOwnedTupleGo_enum ho λY pv bj=>?_⟩;have NY:p!≠e:=λz=>EQ _ (z▸BF s1);have yb:p!≠it:=λz=>by
   obtain⟨o,q,_⟩:=s2;exact EQ _ (z▸BF q)
  have I1:Inv X J Z H {s with heap:=Y,toks:=s.toks+1}:=Ot I hf λc o hc eo=>by
   show"#J";exact(bj.2 c hc.1).trans (kp c o hc.1 hc.2 eo)
  have eT:Y.IsTuple s.heap.objs.size #[.int i s.toks,u]:=⟨_,(bj.2 _ NY).trans hT,rfl,_,rfl⟩;have I2:=b2t (us:=[.int i s.toks,u]) (xs:=[be!,x]) I I1 x_ eT (.cons J_ np!) At_;have TX:IsEnum Y e it q1! u:=by simpa using pv
  refine⟨cA!,_,I2,rfl,⟨_,x,rfl,I.hok.fresh x_,mg!,rfl⟩,⟨⟨_,TX⟩,h1.at λo q=>(bj.2 it (AK kg)).trans q⟩,bg_⟩;rw[Bn (λz:b=p!=>by
   simp only[AE,BO,DN]at O;rcases O with rfl|rfl
   .exact NY z.symm
   .exact yb z.symm)]
  exact(is_).1
 done:=by
  show"!w";obtain⟨⟨ah,s1⟩,s2⟩:=st;have hl:=dM_;exact wpAny_pyNext_enum_end bg! s1 s2 p.isList bJ! λh' eb=>⟨rfl,Ot (t':=s.toks) I hf λc o hc eo=>eb c o h5! eo⟩
 self:=λA i s Q E st h=>by
  obtain⟨⟨ah,s1⟩,_⟩:=st;exact IF s1 h
section
variable{X:Cx}{own:List Nat}{e a b o tg:Expr}{fm:List Expr}{n1:Nat}{pos p2 p tp ag ab:Pos}{f fa fb fo:WE}
nonrec def xK(f:WE):WI:=λρ M T=>f ρ M λd M1=>match d with
 |.lst xs=>T rb! F! M1
 |_=>False
def c7m(hg:Au_)(hm:Av!)(h:aa_)(hs:p1_:=by rfl)(av:p2!:=by rfl):
  MI X own ds! Av_ (xK fa):=⟨by
 show"!m";refine Call_ (Rc I hg hm boot_enumerate (CU (Gn (Gs h.ok Ku hs pos J s Z H (λvs H1=>∃v xs M1 G1,vs=[v]/\T rb! F! M1/\XM M G H M1 G1 H1/\MR X.prog X.w X.K M1 G1 H1/\Bl X.K G1 I! v) I q2!) λus s1 ⟨vs,H1,I1,r1,v,xs,M1,G1,q1,t1,x1,m1,rr⟩=>?_) hs av))
 .cases d<;>first|exact r1.elim|skip
  exact q3!
 subst q1;obtain⟨l,ys,rfl,q,rl⟩:=Cp rr;obtain⟨u,rfl,ru⟩:=Uz r1;cases ru;obtain⟨its,rv,pl,hz⟩:=I1.list (x1.sub.seq q);refine call_enumerate_list pl.isList λh' he az hsz hk=>?_;refine IF he ?_;have jl:∀b∈[z_+1,z_],z_<=b:=λb O=>by
  simp only[AE,BO,DN]at O;rcases O with rfl|rfl<;>omega
 refine⟨_,_,_,_,H1,rfl,I1.kept (t':=s1.toks) hk,a3b Aw!,⟨⟨_,he⟩,az⟩,Aw_,q6!⟩;intro i M' G' H' g1 g2 m' _;have hl:=Aq rl;have q':Jf X.K H' l ys:=g2.seq (g1.seq q);refine⟨cH_,λhi=>⟨ys,q',by rw[AU,GC]at hi;omega⟩⟩;rw[BS,IS]at hd;obtain⟨q2,oi,rfl⟩:=AO.mp hd;obtain⟨c,hc,rfl⟩:=AO.mp oi;obtain⟨v,gv,zc⟩:=Kj rl hc;refine⟨⟨ys,v,q',gv⟩,ed_⟩;obtain⟨T',x',rfl,hT,l8,rfl⟩:=hy;have:=l8 ys q';rw[gv]at this;cases this;refine⟨_,Ed.laid g2 hT,Jm (g2.free hT) (Bc.cons ?_ (Bc.cons (zc.mono g1) Bc.nil))⟩;rw[II];exact Bl.int⟩
end
nonrec def a1m(s1 s2 s3:Str)(fa fb:d_):Ag->Option D:=λρ=>(d8_).bind λx=>(gV_).bind λy=>match x,y with
 |.int i,.int j=>if gn_<1920/\j.natAbs.log2<1920/\(rd!).length<=big then some (.str rd!)else none
 |_,_=>none
section
variable{X:Cx}{own:List Nat}{a b:Expr}{pos q1 q2 q3 q4 q5:Pos}{s1 s2 s3:Str}{j1 j2 j3:Nat}{fa fb:Ag->Option D}
def a8s{J:l_}{Z:St}{G H:Hp}{ρ:Ag}{i:Int}{Q:p_}(h:R!)(I:d!)(er:v7!)(e:fa ρ=some bd_)(hi:gn_<1920)
  (hQ:∀G' H' s' t,Ed G H G' H'->Inv X J Z H' s'->Q (.str gn! t) s'):wpAny e_ X.A (eval (.FormattedValue a (-1) none pos) X.env) Q X.xe s:=by
 refine FormattedValue_plain (Gn (h.ok J s Z H (λv H'=>v=.int i/\∃G',Ed G H G' H') I ⟨G,ρ,_,er,e,λv G' H' x r=>⟨Bp r,G',x⟩⟩) ?_);rintro u s' ⟨x,H',I',r,rfl,G',xx⟩;show"#*";exact formatField_int_small hi (hQ G' H' _ _ xx ((I'.tok _).tok _))
def c3a(ha:R!)(O:cf_):DE X own (.JoinedStr [.Constant (.str s1) j1 q1,.FormattedValue a (-1) none q2,.Constant (.str s2) j2 q3,.FormattedValue b (-1) none q4,.Constant (.str s3) j3 q5] pos) (a1m s1 s2 s3 fa fb):=⟨λJ s Z H Q I ⟨G,ρ,d,er,e,k⟩=>by
 obtain⟨x,e1,e⟩:=AB.mp e;obtain⟨y,e2,e⟩:=AB.mp e;cases x<;>first|(cases e;done)|skip
 cases y<;>first|(cases e;done)|skip
 rename_i i j;simp only at e;show"!5"
 .rename_i h;cases e;obtain⟨B,Y,h3⟩:=h;have h4:=BN h3 j4!;simp only[HG]at h4;refine JoinedStr_many (JC (HZ ⟨by rw[Str.empty_append];omega,?_⟩));rw[Str.empty_append];refine JC (a8s ha iR_ er e1 B λG1 H1 s' t x1 I1=>h9!);refine JC (HZ h9!);refine JC (a8s O (I1.tok _) oq_ e2 Y λG2 H2 s' t x2 I2=>h9!);refine JC (HZ h9!);refine joinParts_nil ?_ (by simp only[HG];omega);exact⟨.str _,H2,(I2.tok _).tok _,J_,k _ G2 H2 (x1.trans x2) Bl.str⟩
 .cases e⟩
def b1c{bi:j_}{rest:bH!}:MSs X own bi rest jt!:=zT_
end
end DL
namespace K26
open PySem L2 DL
nonrec def top(i:Nat):Stmt:=PySem.Challenge.pw_manyhands_k26_lines_of_it.main.body.getD i rg!
nonrec def Rb(i j:Nat):Stmt:=match top i with
 |.ClassDef _ _ _ b _ _ _ _ _ _ _=>b.getD j rg!
 |s=>s
structure Ca where
 mk::
 A0:Addr
 A5:Addr
 A6:Addr
 A7:Addr
 A8:Addr
 A9:Addr
 B0:Addr
 B1:Addr
 B2:Addr
 B3:Addr
 B4:Addr
 B5:Addr
abbrev fL:Stmt:=top 12
def yG:As q! q! (Ai fL):=g_
abbrev fN:Stmt:=top 13
def yI:As f1_ f1_ (Ai fN):=g_
abbrev Va:Stmt:=top 14
def kR:As q! q! (Ai Va):=g_
abbrev jX:Stmt:=top 15
def a3k:As q! q! (Ai jX):=g_
abbrev Tv:Stmt:=top 16
def gX:As q! q! (Ai Tv):=g_
abbrev jY:Stmt:=top 17
def a3l:As q! q! (Ai jY):=g_
abbrev Yl:Stmt:=top 18
def oO:As q! q! (Ai Yl):=g_
abbrev aQ:Stmt:=top 19
def tK:As q! q! (Ai aQ):=g_
abbrev jV:Stmt:=top 20
def a3i:As dG_ dG_ (Ai jV):=g_
abbrev Zb:Stmt:=top 21
def a3h:As q! q! (Ai Zb):=g_
abbrev fM:Stmt:=top 22
def yH:As q! q! (Ai fM):=g_
abbrev Sm:Stmt:=top 24
def tL:As f2! f2! (Ai Sm):=g_
abbrev jZ:Stmt:=top 25
def a3m:As q! q! (Ai jZ):=g_
abbrev Tw:Stmt:=top 26
def gY:As q! q! (Ai Tw):=g_
abbrev Rl:Stmt:=top 27
def dN:As bG_ bG_ (Ai Rl):=g_
abbrev fP:Stmt:=top 28
def yJ:As aZ_ aZ_ (Ai fP):=g_
abbrev qK:Stmt:=Rb 30 0
def b0a:As aR! aR! (Ai qK):=g_
abbrev aS:Stmt:=Rb 30 1
def tM:As U_ U_ (Ai aS):=g_
abbrev Ql:Stmt:=Rb 30 2
def Ln:As rh_ lP! (Ai Ql):=g_
abbrev Tx:Stmt:=Rb 30 3
def Oc:As ri! U_ (Ai Tx):=g_
abbrev Ym:Stmt:=Rb 30 4
def Mz:As vF! aR! (Ai Ym):=g_
abbrev Yn:Stmt:=Rb 31 0
def oP:As aR! aR! (Ai Yn):=g_
abbrev Vd:Stmt:=Rb 31 1
def kS:As U_ U_ (Ai Vd):=g_
abbrev Oj:Stmt:=Rb 31 2
def Xw:As U_ U_ (Ai Oj):=g_
abbrev Ng:Stmt:=Rb 31 3
def Nh:As f4! f4! (Ai Ng):=g_
abbrev Vc:Stmt:=Rb 31 4
def Vf:As ri_ cY! (Ai Vc):=g_
abbrev Ol:Stmt:=Rb 31 5
def Xx:As f4_ f4_ (Ai Ol):=g_
abbrev Tz:Stmt:=Rb 31 6
def gZ:As cY! cY! (Ai Tz):=g_
abbrev Rn:Stmt:=Rb 31 7
def Gz:As rk_ lR! (Ai Rn):=g_
abbrev Ve:Stmt:=Rb 31 8
def Pk:As vM! lS! (Ai Ve):=g_
abbrev Mi:Stmt:=Rb 31 9
def Um:As f5_ f5_ (Ai Mi):=g_
abbrev Ll:Stmt:=Rb 31 11
def Sr:As U_ U_ (Ai Ll):=g_
abbrev Ka:Stmt:=Rb 31 12
def Xv:As aR_ aR_ (Ai Ka):=g_
abbrev Ks:Stmt:=Rb 31 13
def Ze:As aR_ aR_ (Ai Ks):=g_
abbrev Mj:Stmt:=Rb 31 14
def Uo:As aR_ aR_ (Ai Mj):=g_
abbrev Pg:Stmt:=top 33
def Zd:As bG_ bG_ (Ai Pg):=g_
abbrev Yk:Stmt:=top 34
def Qw:As rm_ aZ_ (Ai Yk):=g_
abbrev qH:Stmt:=top 35
def Rp:As rn_ aZ_ (Ai qH):=g_
abbrev a6l:Stmt:=top 36
def b9y:As f6! f6! (Ai a6l):=g_
abbrev qI:Stmt:=top 37
def Rq:As ro_ aZ_ (Ai qI):=g_
abbrev kI:Stmt:=Rb 40 0
def a3n:As f6_ f6_ (Ai kI):=g_
abbrev aT:Stmt:=Rb 40 1
def tR:As f7! f7! (Ai aT):=g_
abbrev aR:Stmt:=top 41
def Sq:As rp! aS! (Ai aR):=g_
abbrev Yj:Stmt:=top 42
def oN:As aS! aS! (Ai Yj):=g_
abbrev aN:Stmt:=top 43
def tH:As au! au! (Ai aN):=g_
abbrev jW:Stmt:=top 44
def a3j:As au! au! (Ai jW):=g_
abbrev aP:Stmt:=top 45
def tJ:As f7_ f7_ (Ai aP):=g_
abbrev Rm:Stmt:=top 46
def Gy:As rq_ bI! (Ai Rm):=g_
abbrev Vb:Stmt:=top 47
def Lm:As rs! lU! (Ai Vb):=g_
abbrev Mp:Stmt:=top 48
def dO:As bI! bI! (Ai Mp):=g_
abbrev qJ:Stmt:=top 49
def a9z:As au! au! (Ai qJ):=g_
abbrev Jh:Stmt:=top 50
def Hk:As rt_ aS! (Ai Jh):=g_
abbrev jU:Stmt:=top 51
def kP:As ru! au! (Ai jU):=g_
abbrev a6k:Stmt:=top 52
def iP:As ru_ bI! (Ai a6k):=g_
abbrev Tu:Stmt:=top 54
def Ua:As v6_ lV! (Ai Tu):=g_
abbrev xU:Stmt:=top 55
def Rr:As rw! lV_ (Ai xU):=g_
abbrev Za:Stmt:=top 56
def kQ:As rx_ lW_ (Ai Za):=g_
abbrev jT:Stmt:=top 57
def yF:As [at!,bY_] aS! (Ai jT):=g_
abbrev xZ:Stmt:=top 59
def b3f:As c0! c0! (Ai xZ):=g_
abbrev a6m:Stmt:=top 60
def tN:As wj_ c0! (Ai a6m):=g_
abbrev dH:Stmt:=top 63
def b0b:As aH! aH! (Ai dH):=g_
abbrev qM:Stmt:=top 64
def Xa:As wm_ aH! (Ai qM):=g_
abbrev kC:Stmt:=top 65
def yK:As wq! n6_ (Ai kC):=g_
abbrev xX:Stmt:=top 66
def b3d:As f9! f9! (Ai xX):=g_
abbrev kH:Stmt:=top 67
def Ki:As rA_ l0! (Ai kH):=g_
abbrev qL:Stmt:=top 68
def Lf:As rB_ l1_ (Ai qL):=g_
abbrev fQ:Stmt:=top 69
def Ni:As rC! aH! (Ai fQ):=g_
abbrev kB:Stmt:=top 70
def Zf:As rD! aH! (Ai kB):=g_
abbrev kE:Stmt:=top 71
def Rs:As rE_ c1! (Ai kE):=g_
abbrev kD:Stmt:=top 72
def kW:As rF_ l3_ (Ai kD):=g_
abbrev xY:Stmt:=top 73
def b3e:As c1! c1! (Ai xY):=g_
abbrev kG:Stmt:=top 74
def Pl:As rG_ l5! (Ai kG):=g_
abbrev xW:Stmt:=top 75
def aW:As rH! aH! (Ai xW):=g_
abbrev Sn:Stmt:=top 76
def tQ:As bZ_ bZ_ (Ai Sn):=g_
abbrev Ph:Stmt:=top 77
def kU:As bZ_ bZ_ (Ai Ph):=g_
abbrev xV:Stmt:=top 78
def Lo:As l6! f9_ (Ai xV):=g_
abbrev sT:Stmt:=top 79
def tI:As rJ_ [bI_] (Ai sT):=g_
nonrec def lE:Ag->Option Fl:= (Cv (Fs (Gp "int" n!) (Fs (Ho (Gp "bool" n!)) (f2 Rz (f1 Li a1!) (f2 Lr (fC (.int 10)) (fC l6_))))))
nonrec def La:List D->Option D:=Er q! 1 (lE)
nonrec def lG:Ag->Option Fl:= (Cv (Fs (f1 La a1!) (Ei Si Rz C_ n! s_)))
nonrec def Mw:List D->Option D:=Er f1_ 2 (lG)
nonrec def Yo:Ag->Option Fl:= (Cv (Fs (f1 La a1!) (f2 cD n! t_)))
nonrec def Ht:List D->Option D:=Er q! 1 (Yo)
nonrec def dW:Ag->Option Fl:= (sSeq (Lp (Ui ii_ (fT (f2 Vv dJ_ V!))) c2_ Fp) (Cv (Fs (f1 Mw (Ad a1_ (Ad ga_ An))) (f1 Ht (Ad dK! An)))))
nonrec def Ia:List D->Option D:=Er q! 1 (dW)
nonrec def Vh:Ag->Option Fl:= (sSeq (Lp (Ui ii_ (fT (f2 Vv dJ_ av!))) c2_ Fp) (Cv (Fs rO! (f1 Mw (Ad dK_ (Ad ga_ An))))))
nonrec def Hz:List D->Option D:=Er q! 1 (Vh)
nonrec def Xc:Ag->Option Fl:= (Cv (Jl (f1 Ia a1!) (Jl (f2 Cg n! ik_) (f2 Cg n! il!))))
nonrec def Mv:List D->Option D:=Er q! 1 (Xc)
nonrec def Su:Ag->Option Fl:= (Cv (Jl rP_ (f1 Ia a1!)))
nonrec def Jx:List D->Option D:=Er q! 1 (Su)
nonrec def Vj:Ag->Option Fl:= (Cv (Jl rP_ (f1 Hz a1!)))
nonrec def Lh:List D->Option D:=Er q! 1 (Vj)
nonrec def qT:Ag->Option Fl:= (Cv (Fs (Ei Si Si gb_ n! (fC (.str "~"))) (f2 Vv (f1 c1d a1!) (fC (.int 37)))))
nonrec def Mt:List D->Option D:=Er dG_ 1 (qT)
nonrec def qS:Ag->Option Fl:= (sSeq (Lp (Ui (Fk (fT mc!)) (Fk (fT (Ei Si Si t_ dJ_ ga_)))) c2_ Fp) (Cv (f1 Yd (Ad (Jq 1 [] (c8e n!) S! aL! il_) An))))
nonrec def Se:List D->Option D:=Er q! 1 (qS)
nonrec def lF:Ag->Option Fl:= (Cv (f1 Mw (Ad n! (Ad b0! An))))
nonrec def Qb:List D->Option D:=Er q! 1 (lF)
nonrec def Pc(t:Ca):List ci_:=[("put",.tup [dL!,.fn t.A5]),("move",.tup [dL!,dL!,.fn t.A5]),("drop",.tup [dL!]),("write",.tup [dL!,.fn t.A6,.fn t.A7]),("cut",.tup rU_),("set",.tup [dL!,.fn t.B0,.fn t.B1]),("undo",.tup [.fn t.B2]),("redo",.tup [.fn t.B2])]
nonrec def Ux(t:Ca):Addr->Option xk!:=λa=>if a=t.A0 then some Mv else if a=t.A5 then some Jx else if a=t.A6 then some Lh else if a=t.A7 then some Se else if a=t.A8 then some Hz else if a=t.A9 then some Ht else if a=t.B0 then some Qb else if a=t.B1 then some La else if a=t.B2 then some Ia else none
nonrec def fU(t:Ca):Ag->Option Fl:= (sSeq (Lp (fT (f2 Vv dJ_ md_)) c2_ Fp) (Cv (f1 Yd (Ad (Jq 2 [] (c8d s_ n!) eG! aL! in!) An))))
nonrec def Nq(t:Ca):List D->Option D:=Er f2! 2 (fU t)
nonrec def dX(t:Ca):Ag->Option Fl:= (sSeq (Lp (Ui ii_ (fT (f2 Cg dJ_ C_))) c2_ Fp) (sSeq (Lp (Ui (Fk (fT (Gp "str" a1_))) (fT (c2k gc_ true a1_))) c2_ Fp) (sSeq (Lp (Fk (fT (f1 (Nq t) (Ad (Je n! io! Bw) (Ad (a8q gc_ a1_) An))))) c2_ Fp) (Cv (Jl (f2 Vv a1_ (fC dM!)) (f2 Si (f2 Bb (f2 Ar dK_ V!) me!) ga_))))))
nonrec def Pf(t:Ca):List D->Option D:=Er q! 1 (dX t)
nonrec def Vi(t:Ca):Ag->Option Fl:= (sSeq (Lp (Ui ii_ (fT (f2 Vv dJ_ b0!))) c2_ Fp) (Cv (Fs rO! (Fs (f1 Ht (Ad dK_ An)) (f1 (Pf t) (Ad me! An))))))
nonrec def Eh(t:Ca):List D->Option D:=Er q! 1 (Vi t)
nonrec def Ub:Ag->Option Fl:= (Cv (Bz (Ad dK_ (Ad a1_ An))))
nonrec def Gj:List D->Option D:=Er bG_ 1 (Ub)
nonrec def lH:Ag->Option Fl:= (Cv (a5j Gj n!))
nonrec def Gm:List D->Option D:=Er aZ_ 1 (lH)
nonrec def zB(t:Ca):WS:= (Ao (Hj t.B5 "following" i! r1_) (Hj t.B5 "preceding" i! r1_))
nonrec def Nr(t:Ca):WF:=Fj aR! 1 (zB t)
nonrec def Vl(t:Ca):WS:= (Cn (Yf (wl iq!) (w2 bw! u! c4_)))
nonrec def Nt(t:Ca):WF:=Fj U_ 2 (Vl t)
nonrec def Ru(t:Ca):WS:= (Ao (Az 3 (wIf (wT (Cf t.B5 "holds" 2 (Nt t) i! c5!)) M! b1!)) (Ao (Az 4 (w2 Ec c4_ aj_)) (Ao (Dz c4_ aj_ u!) (Ao (Dz it_ u! aj_) (Ao (Dz c4_ u! ak!) (Dz it_ ak! u!))))))
nonrec def Fu(t:Ca):WF:=Fj rh_ 3 (Ru t)
nonrec def Vk(t:Ca):WS:= (Ao (Az 2 (b9i it_ u!)) (Ao (Az 3 (b9i c4_ u!)) (Ao (Dz c4_ M! aj_) (Dz it_ aj_ M!))))
nonrec def Qc(t:Ca):WF:=Fj ri! 2 (Vk t)
nonrec def bA(t:Ca):WS:= (Ao ge_ (Ao (Az 2 (w2 Ec c4_ b1!)) (Ao (Io r3! r4!) bK!)))
nonrec def Oy(t:Ca):WF:=Fj vF! 1 (bA t)
nonrec def uA(t:Ca):WS:= (Ao (Hj t.B4 "parents" i! (aL (Im iu_ b1! (Im iv! b1! aJ)))) (Ao (Hj t.B4 "rows" i! (aL (Im iu_ iv_ (Im iv! iv_ aJ)))) (Ao (Hj t.B4 "texts" i! Jg) (Ao (Hj t.B4 "numbers" i! Jg) (Ao (Hj t.B4 "written" i! Jg) (Hj t.B4 "hidden" i! Jg))))))
nonrec def Oz(t:Ca):WF:=Fj aR! 1 (uA t)
nonrec def Yp(t:Ca):WS:= (Cn (w2 bw! u! cv_))
nonrec def Ga(t:Ca):WF:=Fj U_ 2 (Yp t)
nonrec def Pn(t:Ca):WS:= (Cn (w2 bw! u! eH_))
nonrec def Fv(t:Ca):WF:=Fj U_ 2 (Pn t)
nonrec def Om(t:Ca):WS:= (Ao (Io gg! gg_) (Cn (wl iq!)))
nonrec def Ke(t:Ca):WF:=Fj f4! 3 (Om t)
nonrec def oT(t:Ca):WS:= (Ao sc_ (Ao sd! (Ao se! (Ao se_ (Ao sf! sg!)))))
nonrec def Rg(t:Ca):WF:=Fj ri_ 4 (oT t)
nonrec def Po(t:Ca):WS:= (Cn (Yf mn_ (Yf sb_ (b2l (Cf t.B4 "is_within" 3 (Ke t) i! iy!)))))
nonrec def Lb(t:Ca):WF:=Fj f4_ 3 (Po t)
nonrec def lI(t:Ca):WS:= (Ao (Bs (Uy (wT (Cf t.B4 "can_move" 3 (Lb t) i! (Ac u! c5!)))) jO Eu) (Ao (De (Cf t.B5 "take_out" 2 (Qc t) (w2 Ec cv_ ml!) b1_)) (Ao (De (Cf t.B5 "put_behind" 3 (Fu t) (w2 Ec cv_ M!) mn!)) (Dz ml_ u! M!))))
nonrec def Ly(t:Ca):WF:=Fj cY! 4 (lI t)
nonrec def Uc(t:Ca):WS:= (Ao (Bs (Uy (wT (Cf t.B4 "has_item" 2 (Fv t) i! c5!))) jO Eu) (Ao (Az 5 aj_) (Fn (Qu (wB O_)) (a9f 6 7) (Ao mp! (Ao sk! (Ao sk_ (Az 5 hB!)))))))
nonrec def Og(t:Ca):WF:=Fj rk_ 5 (Uc t)
nonrec def Yq(t:Ca):WS:= (Ao (Bs (Uy (wT mn_)) jO Eu) (Fn (Qu (vZ dP! so_)) eI_ (Ao sp_ sr!)))
nonrec def Rh(t:Ca):WF:=Fj vM! 4 (Yq t)
nonrec def Nk(t:Ca):WS:= (Bs (wT mn_) (Dz ss! M! aj_) Eu)
nonrec def Jp(t:Ca):WF:=Fj f5_ 4 (Nk t)
nonrec def Ml(t:Ca):WS:= (Cn (Cf t.B5 "listed" 1 (Oy t) (w2 Ec cv_ u!) Al))
nonrec def Hf(t:Ca):WF:=Fj U_ 2 (Ml t)
nonrec def Zi(t:Ca):WS:= (Cn (Dx 1 [0] (Et (Cf t.B5 "listed" 1 (Oy t) sq! Al)) S! (wT (w2 iD_ i! (Bu t.B4 "hidden" u!))) i!))
nonrec def Hd(t:Ca):WF:=Fj aR_ 2 (Zi t)
nonrec def bB(t:Ca):WS:= (Cn (jP "" (Dx 1 [0] st! S! gi_ (w2 Ec (Bu t.B4 "written" u!) i!))))
nonrec def Jk(t:Ca):WF:=Fj aR_ 2 (bB t)
nonrec def Nl(t:Ca):WS:= (Cn (w1 a8g (Ac ss! Al)))
nonrec def Gd(t:Ca):WF:=Fj aR_ 2 (Nl t)
nonrec def aZ:Ag->Option Fl:= (Cv (Jl (f2 Cg iE_ iF!) (f2 Cg iE_ (fC mw_))))
nonrec def Cd:List D->Option D:=Er bG_ 1 (aZ)
nonrec def tZ:WS:= (Ao iF_ (Ao (Fn (Qu (Iz iG!)) a2_ sv_) bK!))
nonrec def Jw:WF:=Fj rm_ 1 (tZ)
nonrec def b3u:WS:= (Ao sw! (Ao eK! (Ao (Fn iG_ N! iI!) eL!)))
nonrec def Sb:WF:=Fj rn_ 1 (b3u)
nonrec def a3t(t:Ca):WS:= (Bs sz_ (De (Cf t.B4 "put" 4 (Rg t) i! (Ac u! (Ac b4! (Ac gk! Al))))) (Bs sB_ (De (Cf t.B4 "move" 4 (Ly t) i! gl!)) (Bs sC! (De (Cf t.B4 "move" 4 (Ly t) i! sD!)) (Bs sD_ (De (Cf t.B4 "write" 5 (Og t) i! (Ac u! gl!))) (Bs sF! (De (Cf t.B4 "cut" 4 (Rh t) i! gl!)) (Bs sG_ (De (Cf t.B4 "set_number" 4 (Jp t) i! gl!)) Eu))))))
nonrec def Zx(t:Ca):WF:=Fj f6! 3 (a3t t)
nonrec def b3v(t:Ca):WS:= (Ao sI! (Ao (Az 2 (Ba 1 Sb a3_)) (Ao (Fn (Qu (Iz iG!)) N! (Ao eK_ sK_)) bK!)))
nonrec def Qa(t:Ca):WF:=Fj ro_ 1 (b3v t)
nonrec def b0i(t:Ca):WS:= (Ao sL_ sN_)
nonrec def Xs(t:Ca):WF:=Fj f6_ 2 (b0i t)
nonrec def zF(t:Ca):WS:= (Cn sP!)
nonrec def Ik(t:Ca):WF:=Fj f7! 2 (zF t)
nonrec def zA(t:Ca):WS:= (Ao ge_ (Ao (Fn (xL dR!) a2_ (b2m 1 mH_)) mI!))
nonrec def Jo(t:Ca):WF:=Fj rp! 1 (zA t)
nonrec def tY(t:Ca):WS:= (Ao sR! (Cn gp!))
nonrec def Iq(t:Ca):WF:=Fj aS! 1 (tY t)
nonrec def yY(t:Ca):WS:= (Cn sS_)
nonrec def Lg(t:Ca):WF:=Fj au! 2 (yY t)
nonrec def b0f(t:Ca):WS:= (Cn sT!)
nonrec def Mu(t:Ca):WF:=Fj au! 2 (b0f t)
nonrec def yZ(t:Ca):WS:= (Ao sU_ (Cn (w2 Ec (w2 Ec (w2 Ec dR! u!) (wl (d3e t_))) (wl V!))))
nonrec def Np(t:Ca):WF:=Fj f7_ 2 (yZ t)
nonrec def hJ(t:Ca):WS:= (Ao eK! (Ao (Fn sV_ N! (Ao eK_ (Ao sY_ s1_))) eL!))
nonrec def Gk(t:Ca):WF:=Fj rq_ 2 (hJ t)
nonrec def oS(t:Ca):WS:= (Ao eK! (Fn s2! N! (Ao s3! (Ao s4_ s5!))))
nonrec def Nb(t:Ca):WF:=Fj rs! 2 (oS t)
nonrec def hV(t:Ca):WS:= (Ao (Bs (Gc (Fk s6!)) Mn Eu) s7_)
nonrec def Ko(t:Ca):WF:=Fj bI! 2 (hV t)
nonrec def b3w(t:Ca):WS:= (Ao s8_ mG_)
nonrec def Wl(t:Ca):WF:=Fj au! 2 (b3w t)
nonrec def dY(t:Ca):WS:= (Ao (Az 1 aL_) (Ao s9_ (Ao (Io tb! (Ao Mn (Ao (De (Ba 2 (Wl t) (Ac i! (Ac (wl bx_) Al)))) (Ao (xN 1 (wl t_)) s9_)))) bK!)))
nonrec def Ib(t:Ca):WF:=Fj rt_ 1 (dY t)
nonrec def b0c(t:Ca):WS:= (Ao td! (Ao (Az 2 (a9n (Ba 2 (Lg t) b4_) (w2 bw! u! eP!))) (Ao (Bs (Me (Gc (Fk (fT w_))) (wT (w2 (λ_=>Rz) (w1 iD (Ac eP! Al)) (wl (fC (.int 8)))))) (De (Tt eP! u!)) Eu) (Cn aL_))))
nonrec def Sc(t:Ca):WF:=Fj ru! 2 (b0c t)
nonrec def c6f(t:Ca):WS:= (Ao tf! (Ao (Az 2 aL_) (Ao (Fn mR! N! (xN 2 tf_)) eL!)))
nonrec def wG(t:Ca):WF:=Fj ru_ 2 (c6f t)
nonrec def lD(t:Ca):WS:= (Ao (Az 2 iS_) th!)
nonrec def Lx(t:Ca):WF:=Fj v6_ 2 (lD t)
nonrec def c0g(t:Ca):WS:= (Ao th_ (Ao (pZ iT!) (Ao mR_ (Ao (Io (wT tj!) (Ao tj_ (Ao tk_ (Fn tl! cz! (De tm_))))) iT_))))
nonrec def jD(t:Ca):WF:=Fj rw! 2 (c0g t)
nonrec def b0e(t:Ca):WS:= (Ao (Az 3 mT!) tq!)
nonrec def Xq(t:Ca):WF:=Fj rx_ 3 (b0e t)
nonrec def c0f(t:Ca):WS:= (Ao (Az 1 iS_) tr!)
nonrec def jC(t:Ca):WF:=Fj [at!,bY_] 1 (c0f t)
nonrec def uB:Ag->Option Fl:= (sSeq (Lp (λρ=>((n!) ρ).bind a9r) ts! Fp) (Cv C_))
nonrec def cF:List D->Option D:=Er c0! 2 (uB)
nonrec def b3x:Ag->Option Fl:= (sSeq (Fc 2 (f2 En (f2 Bb (f1 cF (Ad n! c4!)) (f2 Ih (fC (.int 104729)) tt_)) (fC (.int 4294967291)))) (sSeq (Fc 2 (f2 En (f2 Ih w_ (fC (.int 48271))) (fC (.int 4294967279)))) (Cv (f2 En (f2 Bb (f2 Ih (f2 Ey w_ (fC (.int 64))) (fC (.int 69621))) w_) (fC (.int 4294967231))))))
nonrec def Fe:List D->Option D:=Er wj_ 2 (b3x)
nonrec def zD:Ag->Option Fl:= (Cv (f2 Bb (f2 Bb (fC (.lst [gb!])) (Jq 1 [] k3! S! (fT mU_) (Bz gv!))) (fC (.lst [ma!,(.tup [iV_,iV_])]))))
nonrec def Wo:List D->Option D:=Er aH! 1 (zD)
nonrec def zC:Ag->Option Fl:= (sSeq (Ss 1 (Ad cf! (Ad (fC (.tup [iV_,iV_,aC_])) An))) (sSeq (oQ k3! a2_ (Lp tv_ tw_ Fp)) (Cv s_)))
nonrec def Wm:List D->Option D:=Er wm_ 1 (zC)
nonrec def a6x:Ag->Option Fl:= (sSeq (Fc 2 (fC (.str " abcXYZ.,;!019~[]\\\"'|{}<>@#$&*()-+/=_^:?`"))) (Cv (sA (fC gu!) (Jq 1 [0,2] (Kd mW_) S! aL! tA_))))
nonrec def cE:List D->Option D:=Er wq! 2 (a6x)
nonrec def a7a:Ag->Option Fl:= ts!
nonrec def Hn:List D->Option D:=Er f9! 2 (a7a)
nonrec def iS:Ag->Option Fl:= (sSeq tC_ (sSeq tD! (sSeq tE! (sSeq tF! (sSeq tG_ (sSeq tH! (sSeq tI_ (sSeq tJ_ (sSeq tK_ (sSeq tM! (sSeq tN_ (sSeq tO_ (sSeq tR_ (sSeq tT_ (sSeq tU! tU_)))))))))))))))
nonrec def Tl:List D->Option D:=Er rA_ 4 (iS)
nonrec def lJ:Ag->Option Fl:= (sSeq iT! (sSeq (Ss 4 i4!) (sSeq (Ss 5 i4!) (sSeq (oQ (Kd w_) cz! (sSeq tW_ (sSeq tX! (sSeq tX_ (sSeq tY! (sSeq tZ! t0_)))))) (Cv G_)))))
nonrec def Sf:List D->Option D:=Er rB_ 3 (lJ)
nonrec def a3u:WS:= (Ao ge_ (Ao (Fn iG_ a2_ (Ao t2! (Ao (Io (Gc (Gb t2_ t4!)) m5!) t4_))) bK!))
nonrec def Hu:WF:=Fj rC! 1 (a3u)
nonrec def b0h:WS:= (Ao iF_ (Ao (Fn eY! a2_ (Bs t6_ t7! Eu)) bK!))
nonrec def Sg:WF:=Fj rD! 1 (b0h)
nonrec def c0l:WS:= (Ao (Az 4 (Dx 1 [1] m6_ S! (Gc (fT t8_)) i!)) (Ao (Az 5 aL_) (Ao (Io (Gc (Gb ua! ub!)) ub_) (Ao (Fn (Qu (Kd eZ!)) cz! (Bs ue_ uf! Eu)) (Dz i! i9_ (wl (f2 Bb ug! ug_)))))))
nonrec def Lz:WF:=Fj rE_ 4 (c0l)
nonrec def c0k:WS:= (Ao (Io jb_ (Ao ui! (Ao ui_ (Az 1 eQ_)))) (Cn iD!))
nonrec def Xr:WF:=Fj rF_ 3 (c0k)
nonrec def c0j:WS:= (Bs (Me (wT (w2 bw! u! bj!)) (wOr (wT (w2 bw! M! bj!)) (wT (w2 bw! M! uk!)))) (Bs ul! um! Eu) Eu)
nonrec def Qq:WF:=Fj c1! 4 (c0j)
nonrec def b3y:WS:= (Ao nb_ (Ao nc! (Bs sz_ (Ao un_ (Ao nc_ (Ao ne! nf!))) (Bs sB_ ng! (Bs sC! ng_ (Bs (Me sG_ (wT gB!)) ur_ (Bs (Me sD_ (wT gB!)) (Ao je_ (Ao (Az 6 aL_) (Ao (Fn nh! db_ uw_) (Ao uy_ uA!)))) (Bs (Me sF! (wT gB!)) (Ao uE! (Ao je_ uF_)) Eu))))))))
nonrec def a8p:WF:=Fj rG_ 2 (b3y)
nonrec def a6z:WS:= (Ao uH_ (Ao uI! (Ao (Fn eY! N! (Bs (Me uI_ uJ_) uL! Eu)) bK!)))
nonrec def jE:WF:=Fj rH! 1 (a6z)
nonrec def zE:WS:= (Cn (Dx 1 [1] m6_ S! (Gc (fT uL_)) (wl a1_)))
nonrec def Qr:WF:=Fj bZ_ 2 (zE)
nonrec def oU:WS:= (Cn (jP "" (Dx 1 [] uM! S! (Gc (fT dK_)) (wl dK!))))
nonrec def Nc:WF:=Fj bZ_ 2 (oU)
nonrec def yX(g:WF):WS:= (Ao (Az 3 go!) (Ao (Fn uO! eI_ (Ao uO_ (Ao uQ! (Ao (Fn (Qu (Kd b0!)) db_ (Bs nk! uU_ Eu)) (Ao (De nl!) (Az 3 (xO aj_ (Ba 3 g uW!)))))))) iT_))
nonrec def a6y:Nat->WS
 |0=>λ_ _ _=>False
 |n+1=>yX (Fj l6! 3 (a6y n))
nonrec def Pa(n:Nat):WF:=Fj l6! 3 (a6y n)
nonrec def c4i(t:Ca):WS:= (Ao uY_ (Ao uZ_ (Ao u0_ (Ao u1! (Ao u4! u5!)))))
nonrec def c4x(t:Ca):WF:=Fj rJ_ 1 (c4i t)
structure Txt(P:Program)(w:World)(K:W.Frag)(mg:C!)(t:Ca):Prop where
 C8:Mc K mg "is_whole" fL q!
 C9:Mc K mg "is_below" fN f1_
 D1:Mc K mg "is_from_one" Va q!
 D2:Mc K mg "is_name" jX q!
 D3:Mc K mg "is_sign_name" Tv q!
 D4:Mc K mg "is_item" jY q!
 D5:Mc K mg "is_sibling" Yl q!
 D6:Mc K mg "is_behind" aQ q!
 D7:Mc K mg "is_sign" jV dG_
 D8:Mc K mg "is_text" Zb q!
 D9:Mc K mg "is_place" fM q!
 E1:Mc K mg "are_parts" Sm f2!
 E2:Mc K mg "is_deed" jZ q!
 E3:Mc K mg "is_operation" Tw q!
 E4:Mc K mg "time_and_hand" Rl bG_
 E5:Mc K mg "in_order" fP aZ_
 E6:a2s K mg "Row" t.B5 "Row.__init__" qK aR!
 E7:Gh K t.B5 "holds" "Row.holds" aS U_
 E8:Gh K t.B5 "put_behind" "Row.put_behind" Ql lP!
 E9:Gh K t.B5 "take_out" "Row.take_out" Tx U_
 F7:Gh K t.B5 "listed" "Row.listed" Ym aR!
 F8:a2s K mg "Outline" t.B4 "Outline.__init__" Yn aR!
 F9:Gh K t.B4 "has" "Outline.has" Vd U_
 G6:Gh K t.B4 "has_item" "Outline.has_item" Oj U_
 G7:Gh K t.B4 "is_within" "Outline.is_within" Ng f4!
 G8:Gh K t.B4 "put" "Outline.put" Vc cY!
 G9:Gh K t.B4 "can_move" "Outline.can_move" Ol f4_
 H9:Gh K t.B4 "move" "Outline.move" Tz cY!
 J0:Gh K t.B4 "write" "Outline.write" Rn lR!
 J1:Gh K t.B4 "cut" "Outline.cut" Ve lS!
 J2:Gh K t.B4 "set_number" "Outline.set_number" Mi f5_
 J3:Gh K t.B4 "children_of" "Outline.children_of" Ll U_
 J4:Gh K t.B4 "signs_of" "Outline.signs_of" Ka aR_
 J5:Gh K t.B4 "text_of" "Outline.text_of" Ks aR_
 J6:Gh K t.B4 "numbers_of" "Outline.numbers_of" Mj aR_
 J7:Mc K mg "is_undo_or_redo" Pg bG_
 J8:Mc K mg "last_words" Yk aZ_
 J9:Mc K mg "undone" qH aZ_
 K0:Mc K mg "play" a6l f6!
 K4:Mc K mg "played" qI aZ_
 K6:a2s K mg "Hand" t.B3 "Hand.__init__" kI f6_
 K7:Gh K t.B3 "have" "Hand.have" aT f7!
 K8:Mc K mg "all_taken" aR aS!
 K9:Mc K mg "outline_of" Yj aS!
 L0:Mc K mg "was_taken" aN au!
 L5:Mc K mg "is_next" jW au!
 L6:Mc K mg "last_time" aP f7_
 L7:Mc K mg "not_yet_taken" Rm bI!
 L8:Mc K mg "check_times" Vb lU!
 L9:Mc K mg "check_message" Mp bI!
 M6:Mc K mg "accept" qJ au!
 M7:Mc K mg "accept_waiting" Jh aS!
 M9:Mc K mg "receive" jU au!
 N0:Mc K mg "take" a6k bI!
 N3:Mc K mg "outline_with" Tu lV!
 N4:Mc K mg "pages" xU lV_
 N5:Mc K mg "line_of" Za lW_
 N6:Mc K mg "shown" jT aS!
 N7:Mc K mg "_law_cell" xZ c0!
 N8:Mc K mg "_law_mix" a6m c0!
 N9:Mc K mg "_law_items" dH aH!
 O0:Mc K mg "_law_signs" qM aH!
 O1:Mc K mg "_law_text" kC n6_
 O2:Mc K mg "_law_pick" xX f9!
 O3:Mc K mg "_law_deed" kH l0!
 O4:Mc K mg "_law_world" qL l1_
 O5:Mc K mg "_law_ordered" fQ aH!
 O6:Mc K mg "_law_undone" kB aH!
 O7:Mc K mg "_law_hang" kE c1!
 O8:Mc K mg "_law_lies" kD l3_
 O9:Mc K mg "_law_move" xY c1!
 P0:Mc K mg "_law_do" kG l5!
 P1:Mc K mg "_law_play" xW aH!
 P3:Mc K mg "_law_children" Sn bZ_
 P4:Mc K mg "_law_shown_text" Ph bZ_
 P5:Mc K mg "_law_rows" xV f9_
 P6:Mc K mg "law" sT [bI_]
 P7:mg "abs"=none
 P8:mg "all"=none
 P9:mg "bool"=none
 Q0:mg "enumerate"=none
 Q3:mg "int"=none
 Q4:mg "isinstance"=none
 Q5:mg "len"=none
 Q6:mg "list"=none
 Q7:mg "ord"=none
 Q8:mg "range"=none
 Q9:mg "reversed"=none
 R0:mg "sorted"=none
 R4:mg "str"=none
 R6:mg "tuple"=none
 R7:mg "zip"=none
 R8:∃tk,mg "HANDS"=some (.int 16 tk)
 R9:∃tk,mg "SIGNS"=some (.int 16 tk)
 S0:∃tk,mg "PLACES"=some (.int 4 tk)
 S7:∃tk,mg "LEFT_OUT"=some (.int 37 tk)
 S8:∃tk,mg "MOST_WAITING"=some (.int 8 tk)
 S9:mg "is_item"=some (.ref t.A0)
 T0:mg "is_sibling"=some (.ref t.A5)
 T1:mg "is_behind"=some (.ref t.A6)
 T2:mg "is_text"=some (.ref t.A7)
 T3:mg "is_sign_name"=some (.ref t.A8)
 T4:mg "is_from_one"=some (.ref t.A9)
 T5:mg "is_place"=some (.ref t.B0)
 T6:mg "is_whole"=some (.ref t.B1)
 T7:mg "is_name"=some (.ref t.B2)
 T8:Cls K t.B3
 T9:Cls K t.B4
 U0:Cls K t.B5
 U1:Ie K t.B5 "following"
 U2:Ie K t.B5 "preceding"
 U3:Ie K t.B4 "parents"
 U4:Ie K t.B4 "rows"
 U5:Ie K t.B4 "texts"
 U6:Ie K t.B4 "numbers"
 U7:Ie K t.B4 "written"
 U8:Ie K t.B4 "hidden"
 U9:Ie K t.B3 "ours"
 V0:Ie K t.B3 "taken"
 V2:Ie K t.B3 "waiting"
 V3:Ie K t.B3 "outline"
 V4:∀X:Cx,X.prog=P->X.w=w->X.K=K->X.mg=mg->a2r X "PARTS" gc_
def Gv:∀(l:g!) (d v:D),kget e4! d=some v
 |[],d,v=>by simp[Bi,kget]
 |(k,x)::r,d,v=>by
  unfold Bi;by_cases h:k=d
  .rw[AQ h];simp[kget,h]
  .rw[AI h];simp[kget,h,Gv r d v]
def Hb(h:d≠e):∀(l:g!) (v:D),kget e4! e=kget l e
 |[],v=>by simp[Bi,kget,h]
 |(k,x)::r,v=>by
  unfold Bi;show"!i"
  .rw[a5_];subst hk;simp[kget,h]
  .rw[aE!];simp only[kget];rw[Hb h r v]
def mU(h:d≠e):∀(l:g!),kget gE_ e=kget l e
 |[]=>rfl
 |(k,x)::r=>by
  unfold Mg;show"!i"
  .rw[a5_];subst hk;simp[kget,h]
  .rw[aE!];simp only[kget];rw[mU h r]
def vQ:∀{l:g!} {d:D},kget l d≠none↔d∈l.map b!
 |[],d=>by simp[kget]
 |(k,x)::r,d=>by
  unfold kget;show"!i"
  .subst hk;simp
  .rw[aE!,vQ];simp[AK hk]
def mT:∀{l:g!} {d:D},(em_).Nodup->kget gE_ d=none
 |[],d,_=>rfl
 |(k,x)::r,d,h=>by
  rw[AH,AX]at h;unfold Mg;show"!i"
  .rw[a5_];subst hk;cases e:kget r k with
   |none=>rfl
   |some v=>exact absurd (vQ.mp kF_) h.1
  .rw[aE!];unfold kget;rw[aE!];exact mT h.2
def uX:∀{l:g!} {d v:D} {e:D},e∈(e4!).map b!↔e=d\/e∈l.map b!
 |[],d,v,e=>by simp[Bi]
 |(k,x)::r,d,v,e=>by
  unfold Bi;show"!i"
  .rw[a5_];subst hk;simp
  .rw[aE!];simp only[AH,AE];rw[uX];constructor<;>(rintro(h|h|h)<;>simp[h])
def Tf:∀{l:g!} {d v:D},(em_).Nodup->((e4!).map b!).Nodup
 |[],d,v,_=>by simp[Bi]
 |(k,x)::r,d,v,h=>by
  rw[AH,AX]at h;unfold Bi;show"!i"
  .rw[a5_];simp only[AH,AX];exact h
  .rw[aE!];simp only[AH,AX];refine⟨cN!,Tf h.2⟩;rcases uX.mp z with z|z
   .exact hk z
   .exact h.1 z
def b6m:∀{l:g!} {d e:D},e∈(gE_).map b!->e∈l.map b!
 |[],d,e,h=>by simp[Mg]at h
 |(k,x)::r,d,e,h=>by
  unfold Mg at h;show"!i"
  .rw[a5_]at h;simp only[AH,AE];exact .inr h
  .rw[aE!]at h;simp only[AH,AE]at h ⊢;rcases h with h|h
   .exact .inl h
   .exact .inr (b6m h)
def b6n:∀{l:g!} {d:D},(em_).Nodup->((gE_).map b!).Nodup
 |[],d,_=>by simp[Mg]
 |(k,x)::r,d,h=>by
  rw[AH,AX]at h;unfold Mg;show"!i"
  .rw[a5_];exact h.2
  .rw[aE!];simp only[AH,AX];exact⟨λz=>h.1 (b6m z),b6n h.2⟩
def mM:∀{l:g!} {d v:D},kget l d≠none->(e4!).length=P!
 |[],d,v,h=>by simp[kget]at h
 |(k,x)::r,d,v,h=>by
  unfold Bi;show"!i"
  .rw[a5_];rfl
  .rw[aE!];unfold kget at h;rw[aE!]at h;simp[mM h]
def mZ:∀{l:g!} {d:D},kget l d≠none->(gE_).length+1=P!
 |[],d,h=>by simp[kget]at h
 |(k,x)::r,d,h=>by
  unfold Mg;show"!i"
  .rw[a5_];rfl
  .rw[aE!];unfold kget at h;rw[aE!]at h;simp[mZ h]
nonrec def Rv{α:Type}:List α->List (α×α)
 |a::b::r=>Y!::Rv (b::r)
 |_=>[]
def Jt{α:Type}:∀(u:K_) (a b:α) (v:K_),Rv (u++a::b::v)=Rv (u++[a])++Y!::Rv (b::v)
 |[],a,b,v=>rfl
 |[x],a,b,v=>rfl
 |x::y::u,a,b,v=>by
  have:=Jt (y::u) a b v;simp only[FG]at this ⊢;simp only[Rv,FG];rw[this]
def a7h{α:Type}:∀(a:α) (l:K_),(Rv (a::l)).map b!=(a::l).dropLast
 |a,[]=>rfl
 |a,b::r=>by simp only[Rv,AH,a7h b r,List.dropLast]
def a7g{α:Type}:∀(a:α) (l:K_),(Rv (a::l)).map A_=l
 |a,[]=>rfl
 |a,b::r=>by simp only[Rv,AH,a7g b r]
nonrec def Rk(xs:b_):List D:=.non::(xs++[.non])
def wS(xs:b_):(e4_).map b!=.non::xs:=by unfold Rk;rw[a7h,show(D.non::(xs++[.non]))=(.non::xs)++[.non]from rfl,List.dropLast_concat]
def cP(xs:b_):(e4_).map A_=xs++[.non]:=a7g _ _
structure iI(kf kp:g!)(xs:b_):Prop where
 f:∀a b,kget kf a=some b↔Y!∈Rv aN!
 p:∀a b,kget kp b=some a↔Y!∈Rv aN!
 nd:xs.Nodup
 no:D.non∉xs
 kf_nd:(kf.map b!).Nodup
 kp_nd:(kp.map b!).Nodup
 fl:kf.length=i_+1
 pl:kp.length=i_+1
def Qd{α β:Type}:∀{l:List (α×β)} {a:α} {b c:β},(em_).Nodup->Y!∈l->(a,c)∈l->b=c
 |[],_,_,_,_,h,_=>by cases h
 |(x,y)::r,a,b,c,nd,B,Y=>by
  rw[AH,AX]at nd;rcases AE.mp B with z|z<;>rcases AE.mp Y with w|w
  .cases z;cases w;rfl
  .cases z;exact absurd u7! nd.1
  .cases w;exact absurd u7_ nd.1
  .exact Qd nd.2 z w
def iI.hasF(h:jj_)(a:D):kget kf a≠none↔a=.non\/a∈xs:=by
 have e:=wS xs;show"!Q"
 .intro z;cases q:kget kf a with
  |none=>exact absurd q z
  |some b=>
   have:=AM (f:=b!) ((h.f a b).mp q);rw[e]at this;show"#>"
 .intro z;have:a∈(e4_).map b!:=by rw[e];simpa using z
  obtain⟨⟨x,b⟩,hm,rfl⟩:=AZ.mp this;rw[(h.f x b).mpr hm];simp
def iI.hasP(h:jj_)(b:D):kget kp b≠none↔b=.non\/b∈xs:=by
 have e:=cP xs;show"!Q"
 .intro z;cases q:kget kp b with
  |none=>exact absurd q z
  |some a=>
   have:=AM (f:=A_) ((h.p a b).mp q);rw[e]at this;rcases AR.mp this with w|w
   .exact .inr w
   .exact .inl (by simpa using w)
 .intro z;have:b∈(e4_).map A_:=by rw[e];rcases z with rfl|z<;>simp[*]
  obtain⟨⟨a,y⟩,hm,rfl⟩:=AZ.mp this;rw[(h.p a y).mpr hm];simp
def b3m:iI jk! jk! []:=by
 refine⟨e5!,e5!,J!,J!,J!,J!,rfl,rfl⟩<;>
 .simp only[Rk,Rv,kget,CZ,AE,BO,DN,DR];show"!Q"
  .intro z;split at z
   .rename_i q;cases z;exact⟨by first|exact q.symm|rfl,by first|rfl|exact q.symm⟩
   .cases z
  .rintro⟨rfl,rfl⟩;simp
nonrec def b6z(n a:D):List D->List D
 |[]=>[]
 |x::r=>open Classical in if x=a then x::n::r else x::b6z n a r
nonrec def hW(n a:D)(xs:b_):List D:=open Classical in if a∈xs then b6z n a xs else n::xs
def Tk:∀{u v:b_},a∉u->b6z n a (u++a::v)=u++a::n::v
 |[],v,_=>by simp[b6z]
 |x::u,v,h=>by
  rw[AE,GO]at h;simp only[FG,b6z];rw[kY_,Tk h.2]
def iI.ins(h:jj_)(e:Rk xs=u++a0::b0::v)(e':Rk gb=u++a0::n::b0::v)(hn:n∉xs)(h0:n≠.non):
  iI (Bi e5_ n b0) (Bi e6! b0 n) gb:=by
 have P:=Jt u a0 b0 v;have P':Rv (Rk gb)=Rv jl!++(a0,n)::(n,b0)::Rv jl_:=by rw[e',Jt];rfl
 rw[<-e]at P;have F:=wS xs;have S:=cP xs;have zd:(D.non::xs).Nodup:=AX.mpr u8_;have v9:(xs++bL_).Nodup:=by
  rw[BP];exact u9!
 have nf:∀a b,Y!∈Rv aN!->a≠n:=λa b hm z=>by
  have:=AM (f:=b!) hm;rw[F]at this;rcases AE.mp this with w|w
  .exact h0 jm_
  .exact hn jm_
 have ns:∀a b,Y!∈Rv aN!->b≠n:=λa b hm z=>by
  have:=AM (f:=A_) hm;rw[S]at this;rcases AR.mp this with w|w
  .exact hn jm_
  .simp at w;exact h0 jm_
 have m0:(a0,b0)∈Rv aN!:=by rw[P];simp
 have wb:a0≠n:=nf _ _ m0;have qf:b0≠n:=ns _ _ m0;have dF:∀a b,Y!∈Rv jl!\/Y!∈Rv jl_->Y!∈Rv aN!/\a≠a0/\b≠b0:=λa b hm=>by
  have q:Y!∈Rv aN!:=by rw[P];rcases hm with z|z<;>simp[z]
  have gd:=F▸zd;have bf:=S▸v9;rw[P]at gd bf;simp only[BJ,AH]at gd bf;rw[BP,AX]at gd bf;refine⟨q,cN!,cN!⟩
  .rcases hm with w|w
   .exact gd.2.2 _ u7! _ c_ z
   .exact gd.2.1.1 (z▸AM (f:=b!) w)
  .rcases hm with w|w
   .exact bf.2.2 _ (AM (f:=A_) w) _ c_ z
   .have:=AM (f:=A_) w;rw[show(Y!).2=b0 from z]at this;exact bf.2.1.1 this
 have len:gb.length=i_+1:=by
  show"!S"
 have X2:∀y,y∈Rk gb↔y=n\/y∈Rk xs:=λy=>by rw[e,e'];simp only[AR,AE];constructor<;>(intro z;rcases z with z|z|z|z|z<;>simp[z])
 have tl:gb++bL_=nr!:=rfl;have fq:(nr!).Nodup:=by
  rw[<-cP gb,P'];have bf:=S▸v9;rw[P]at bf;simp only[BJ,AH]at bf ⊢;rw[BP,AX]at bf;rw[BP,AX,AX];refine⟨bf.1,⟨cN!,bf.2.1.1,bf.2.1.2⟩,va_⟩
  .rcases AE.mp z with z|z
   .exact qf z.symm
   .obtain⟨⟨c,d⟩,hm,rfl⟩:=AZ.mp z;exact ns c d vb! rfl
  .rcases AE.mp O with rfl|O
   .obtain⟨⟨c,d⟩,hm,rfl⟩:=AZ.mp ha;exact ns c d vb!
   .exact vb_
 rw[BP]at fq;refine⟨e5!,e5!,fq.1,vc!,Tf (Tf h.kf_nd),Tf (Tf h.kp_nd),?_,?_⟩
 .rw[P'];show"!U";by_cases q1:n=a
  .show"#("
   .show"!h";simp
   .rintro(z|⟨z,_⟩|⟨_,z⟩|z)
    .exact absurd rfl (nf _ _ (dd!).1)
    .exact absurd z.symm wb
    .rw[z]
    .exact absurd rfl (nf _ _ (dd_).1)
  .rw[Hb q1];by_cases q2:a0=a
   .subst q2;rw[Gv];show"!Q"
    .show"!h";simp
    .rintro(z|⟨_,z⟩|⟨z,_⟩|z)
     .exact absurd rfl (dd!).2.1
     .rw[z]
     .exact b9!
     .exact absurd rfl (dd_).2.1
   .rw[Hb q2,h.f,P];show"!U";show"!Q"
    .show"#F"
     .exact cC_
     .exact gF_
     .exact jo!
    .rintro(z|⟨z,_⟩|⟨z,_⟩|z)
     .exact cC_
     .exact gF_
     .exact b9!
     .exact jo_
 .rw[P'];show"!U";by_cases q1:b0=b
  .show"#("
   .show"!h";simp
   .rintro(z|⟨_,z⟩|⟨z,_⟩|z)
    .exact absurd rfl (dd!).2.2
    .exact absurd z qf
    .rw[z]
    .exact absurd rfl (dd_).2.2
  .rw[Hb q1];by_cases q2:n=b
   .subst q2;rw[Gv];show"!Q"
    .show"!h";simp
    .rintro(z|⟨z,_⟩|⟨_,z⟩|z)
     .exact absurd rfl (ns _ _ (dd!).1)
     .rw[z]
     .exact absurd z.symm qf
     .exact absurd rfl (ns _ _ (dd_).1)
   .rw[Hb q2,h.p,P];show"!U";show"!Q"
    .show"#G"
     .exact cC_
     .exact b9!
     .exact jo!
    .rintro(z|⟨_,z⟩|⟨_,z⟩|z)
     .exact cC_
     .exact gF_
     .exact b9!
     .exact jo_
 .have f0:kget kf a0≠none:=by rw[(nr_).mpr m0];simp
  have f1:n∉(e5_).map b!:=λz=>by
   rcases uX.mp z with z|z
   .exact wb z.symm
   .rcases(h.hasF n).mp (vQ.mpr z)with w|w
    .exact h0 w
    .exact hn w
  rw[Pw f1,AT,mM f0,h.fl,len];rfl
 .have f1:n∉kp.map b!:=λz=>by
   rcases(h.hasP n).mp (vQ.mpr z)with w|w
   .exact h0 w
   .exact hn w
  have f0:kget e6! b0≠none:=by rw[Hb (AK qf),(ns!).mpr m0];simp
  rw[mM f0,Pw f1,AT,h.pl,len];rfl
def iI.out(h:jj_)(e:Rk xs=u++a0::n::b0::v)(e':Rk gb=u++a0::b0::v)(h0:n≠.non):
  iI vf_ vg! gb:=by
 have P':=Jt u a0 b0 v;have P:Rv aN!=Rv jl!++(a0,n)::(n,b0)::Rv jl_:=by rw[e,Jt];rfl
 rw[<-e']at P';have F:=wS xs;have S:=cP xs;have zd:((e4_).map b!).Nodup:=by rw[F];exact AX.mpr u8_
 have v9:((e4_).map A_).Nodup:=by
  rw[S,BP];exact u9!
 have gd:=zd;have bf:=v9;rw[P]at gd bf;simp only[BJ,AH]at gd bf;rw[BP,AX,AX]at gd bf;have wb:a0≠n:=λz=>gd.2.1.1 f0!;have qf:b0≠n:=λz=>bf.2.1.1 f0!;have m1:(a0,n)∈Rv aN!:=by rw[P];simp
 have m2:(n,b0)∈Rv aN!:=by rw[P];simp
 have len:i_=gb.length+1:=by
  show"!S"
 have dF:∀a b,Y!∈Rv jl!\/Y!∈Rv jl_->Y!∈Rv aN!/\(a≠a0/\a≠n)/\(b≠b0/\b≠n):=λa b hm=>by
  have q:Y!∈Rv aN!:=by rw[P];rcases hm with z|z<;>simp[z]
  have g1:a≠a0/\a≠n:=by
   rcases hm with w|w
   .have:=AM (f:=b!) w;exact⟨vg_,vg_⟩
   .have:=AM (f:=b!) w;exact⟨λz=>gd.2.1.1 (AD _ jr!),λz=>gd.2.1.2.1 jr!⟩
  have g2:b≠b0/\b≠n:=by
   rcases hm with w|w
   .have:=AM (f:=A_) w;exact⟨vh!,vh!⟩
   .have:=AM (f:=A_) w;exact⟨λz=>bf.2.1.2.1 jr!,λz=>bf.2.1.1 (AD _ jr!)⟩
  exact⟨q,g1,g2⟩
 have fq:(nr!).Nodup:=by
  rw[<-cP gb,P'];simp only[BJ,AH];rw[BP,AX];exact⟨bf.1,bf.2.1.2,λa ha b O=>bf.2.2 a ha b (AD _ O)⟩
 rw[BP]at fq;have TY:kget kf a0≠none:=by rw[(nr_).mpr m1];simp
 have db:kget kp b0≠none:=by rw[(ns!).mpr m2];simp
 refine⟨e5!,e5!,fq.1,vc!,Tf (b6n h.kf_nd),Tf (b6n h.kp_nd),?_,?_⟩
 .rw[P'];show"!U";by_cases q1:a0=a
  .show"#("
   .show"!h";simp
   .show"#G"
    .exact absurd rfl (dd!).2.1.1
    .rw[z]
    .exact absurd rfl (dd_).2.1.1
  .rw[Hb q1];by_cases q2:n=a
   .subst q2;rw[mT h.kf_nd];show"!Q"
    .show"!h"
    .show"#F"
     .exact absurd rfl (dd!).2.1.2
     .exact b9!
     .exact absurd rfl (dd_).2.1.2
   .rw[mU q2,h.f,P];show"!U";show"!Q"
    .rintro(z|⟨z,_⟩|⟨z,_⟩|z)
     .exact cC_
     .exact b9!
     .exact gF_
     .exact jo_
    .show"#F"
     .exact cC_
     .exact b9!
     .exact jo!
 .rw[P'];show"!U";by_cases q1:b0=b
  .show"#("
   .show"!h";simp
   .show"#F"
    .exact absurd rfl (dd!).2.2.1
    .rw[z]
    .exact absurd rfl (dd_).2.2.1
  .rw[Hb q1];by_cases q2:n=b
   .subst q2;rw[mT h.kp_nd];show"!Q"
    .show"!h"
    .show"#G"
     .exact absurd rfl (dd!).2.2.2
     .exact b9!
     .exact absurd rfl (dd_).2.2.2
   .rw[mU q2,h.p,P];show"!U";show"!Q"
    .rintro(z|⟨_,z⟩|⟨_,z⟩|z)
     .exact cC_
     .exact gF_
     .exact b9!
     .exact jo_
    .show"#G"
     .exact cC_
     .exact b9!
     .exact jo!
 .have:=mZ (l:=kf) (d:=n) (by rw[(nr_).mpr m2];simp);rw[mM (by rw[mU (AK wb)];exact TY)];have:=h.fl;omega
 .have:=mZ (l:=kp) (d:=n) (by rw[(ns!).mpr m1];simp);rw[mM (by rw[mU (AK qf)];exact db)];have:=h.pl;omega
def d3b:(Str.ofString "following"==Str.ofString "preceding")=false:=by decide+kernel
def d1w:(Str.ofString "preceding"==Str.ofString "following")=false:=by decide+kernel
def rZ:(Str.ofString "following"==Str.ofString "following")=true:=by decide+kernel
def lkP:List.lookup (Str.ofString "preceding") [(Str.ofString "following",a),(Str.ofString "preceding",b)]=some b:=by simp[BY,d1w]
structure Ic(t:Ca)(M:Mh)(r f p:Addr)(xs:b_):Prop where
 ob:M r=some (.obj t.B5 [("following",.fn f),("preceding",.fn p)])
 dc:∃kf ef kp ep,M f=some (.dct kf ef)/\M p=some (.dct kp ep)/\iI kf kp xs
 ne:f≠p
def rT:Fb d=true↔d=.non:=by cases d<;>simp[Fb]
def Sa(hd:d≠.non):Fb d=false:=by cases q:Fb d with|false=>rfl|true=>exact absurd (rT.mp q) hd
def a1b{t:Ca}{M:Mh}{R:v_}(h:dY!)(hk:bp_)(hR:R (.bl (open Classical in decide (d∈xs))) M):Nt t [.fn r,d] M R:=by
 obtain⟨kf,ef,kp,ep,hf,hp,K⟩:=h.dc;refine m_;by_cases hd:d=.non
 .subst hd;have:(D.non∈xs)=False:=by simp[K.no]
  simp only[this,IH]at hR;simpa[Vl,Cn,Yf,wT,wl,f2,Aa,fC,Bg,Fb]using hR
 .have e3:(kget kf d).isSome=(open Classical in decide (d∈xs)):=by
   have:=K.hasF d;cases q:kget kf d with
   |none=>rw[q]at this;simp[hd]at this;simp[this]
   |some v=>rw[q]at this;simp[hd]at this;simp[this]
  rw[<-e3]at hR;simpa[Vl,Cn,Yf,wT,wl,f2,Aa,fC,Bg,Sa hd,w2,Bu,Mx,h.ob,Hi,Pz,hf,hk,rZ]using hR
def Wz{α:Type}{a:α}:∀{l:K_},a∈l->∃u v,l=u++a::v/\a∉u
 |x::r,h=>open Classical in by
  by_cases e:a=x
  .exact⟨[],r,by rw[e];rfl,J!⟩
  .obtain⟨u,v,rfl,hu⟩:=Wz ((AE.mp h).resolve_left e);exact⟨x::u,v,rfl,by simp[e,hu]⟩
def b4e(h0:D.non∉xs):∃u b0 v,Rk xs=u++(open Classical in if o∈xs then o else .non)::b0::v/\Rk (hW n o xs)=u++(open Classical in if o∈xs then o else .non)::n::b0::v:=by
 by_cases h:o∈xs
 .obtain⟨u,v,rfl,hu⟩:=Wz h;obtain⟨b0,v',e⟩:∃b0 v',v++[D.non]=b0::v':=by cases v with|nil=>exact bz_|cons a r=>exact bz_
  refine⟨.non::u,b0,v',?_,?_⟩
  .rw[AQ h];simp[Rk,e]
  .unfold hW;rw[AQ h,AQ h,Tk hu];simp[Rk,e]
 .obtain⟨b0,v',e⟩:∃b0 v',xs++[D.non]=b0::v':=by cases xs with|nil=>exact bz_|cons a r=>exact bz_
  refine⟨[],b0,v',?_,?_⟩
  .rw[AI h];simp[Rk,e]
  .unfold hW;rw[AI h,AI h];simp[Rk,e]
def Qy{t:Ca}{M:Mh}{xs:b_}{R:v_}(h:dY!)(hn:Ha n=some kn)(ho:Ha o=some ko)(n0:n≠.non)(nx:n∉xs)(hl:i_<5000)(gf:ny_)
  (hR:∀M',Ic t M' r f p (hW n o xs)->vi!->R .non M'):Fu t [.fn r,n,o] M R:=by
 obtain⟨kf,ef,kp,ep,hf,hp,K⟩:=h.dc;have oj:r≠f:=λz=>by have:=h.ob;rw[z,hf]at this;cases this
 have jq:r≠p:=λz=>by have:=h.ob;rw[z,hp]at this;cases this
 obtain⟨u,b0,v,c1,c2⟩:=b4e (n:=n) (o:=o) K.no;generalize ea:(open Classical in if o∈xs then o else D.non)=a0 at c1 c2;have m0:(a0,b0)∈Rv aN!:=by rw[c1,Jt];simp
 have km:kget kf a0=some b0:=(gH_).mpr m0;have K':=K.ins c1 c2 nx n0;have ka:∃k,Ha a0=some k:=by
  have:=(K.hasF a0).mp vi_;rcases this with rfl|z
  .exact J_
  .exact gf _ z
 have kb:∃k,Ha b0=some k:=by
  have:=(K.hasP b0).mp (by rw[(nz!).mpr m0];simp);rcases this with rfl|z
  .exact J_
  .exact gf _ z
 obtain⟨ka,ze⟩:=ka;obtain⟨kb,zf⟩:=kb;have l1:kf.length<big:=by have:=K.fl;unfold big;omega
 have l2:kp.length<big:=by have:=K.pl;unfold big;omega
 have l3:(e5_).length<big:=CW dY_ (by have:=K.fl;unfold big;omega);have l4:(e6!).length<big:=CW dY_ (by have:=K.pl;unfold big;omega);refine m_;simp only[Ru,Ao,Az,wIf,wT,Cf,wl,Ac,Al,Aa];simp[Gi,h.ob,d3b,rZ];refine⟨⟨ez_,ez_⟩,?_⟩;refine a1b h ho ?_;have key:∀(b:Bool),b=(open Classical in decide (o∈xs))->((b=true/\o=a0)\/(b=false/\D.non=a0)):=λb O=>by
  subst O;rw[<-ea];by_cases z:o∈xs<;>simp[z]
 generalize O:(open Classical in decide (o∈xs))=b;have fin:R .non (Cb (Cb (Cb (Cb M f (.dct e5_ (Lk kf a0 ef))) p (.dct e6! (Lk kp n ep))) f (.dct (Bi e5_ n b0) (Lk e5_ n (Lk kf a0 ef)))) p (.dct (Bi e6! b0 n) (Lk e6! b0 (Lk kp n ep)))):=by
  refine hR _ vj_ λb t6 t9=>?_
  .rw[ju!,ju_,ju!,ju_];exact h.ob
  .rw[jv!,jv_,jv!,jv_]
 rcases key b O.symm with⟨rfl,rfl⟩|⟨rfl,rfl⟩<;>
 simpa[Ao,Az,w2,wl,Bu,Dz,Hi,Mx,Aa,fC,f2,h.ob,rZ,lkP,Ec,hf,hp,ze,zf,hn,km,Ur,l1,l2,l3,l4,mup_ne,mup_same,oj,jq,h.ne,AK h.ne]using fin
def xR{t:Ca}{M:Mh}{xs:b_}{R:v_}(h:dY!)(L:xs=u++n::v)(hn:Ha n=some kn)(hl:i_<5000)(gf:ny_)
  (hR:∀M',Ic t M' r f p bj_->vi!->R .non M'):Qc t [.fn r,n] M R:=by
 obtain⟨kf,ef,kp,ep,hf,hp,K⟩:=h.dc;have oj:r≠f:=λz=>by have:=h.ob;rw[z,hf]at this;cases this
 have jq:r≠p:=λz=>by have:=h.ob;rw[z,hp]at this;cases this
 have n0:n≠.non:=λz=>K.no (by rw[L,<-z];simp);obtain⟨b0,v',ev⟩:∃b0 v',v++[D.non]=b0::v':=by cases v with|nil=>exact bz_|cons a r=>exact bz_
 obtain⟨u',a0,eu⟩:∃u' a0,D.non::u=u'++[a0]:=⟨(jw!).dropLast,(jw!).getLast c_,(List.dropLast_concat_getLast c_).symm⟩;have c1:Rk xs=u'++a0::n::b0::v':=by
  rw[L];show D.non::vl_=_;rw[show D.non::vl_=jw!++n::(v++bL_)by simp,eu,ev];simp
 have c2:Rk bj_=u'++a0::b0::v':=by
  show D.non::(u++v++bL_)=_;rw[show D.non::(u++v++bL_)=jw!++(v++bL_)by simp,eu,ev];simp
 have m1:(a0,n)∈Rv aN!:=by rw[c1,Jt];simp
 have m2:(n,b0)∈Rv aN!:=by rw[c1,show u'++a0::n::b0::v'=(u'++[a0])++n::b0::v' by simp,Jt];simp
 have zg:kget kp n=some a0:=(nz!).mpr m1;have km:kget kf n=some b0:=(gH_).mpr m2;have K':=K.out c1 c2 n0;have ka:∃k,Ha a0=some k:=by
  have:=(K.hasF a0).mp (by rw[(gH_).mpr m1];simp);rcases this with rfl|z
  .exact J_
  .exact gf _ z
 have kb:∃k,Ha b0=some k:=by
  have:=(K.hasP b0).mp (by rw[(nz!).mpr m2];simp);rcases this with rfl|z
  .exact J_
  .exact gf _ z
 obtain⟨ka,ze⟩:=ka;obtain⟨kb,zf⟩:=kb;have l1:(jp_).length<big:=by have:=mZ (l:=kf) (d:=n) vi_;have:=K.fl;unfold big;omega
 have l2:(jq!).length<big:=by have:=mZ (l:=kp) (d:=n) (by rw[zg];simp);have:=K.pl;unfold big;omega
 refine m_;have fin:R .non (Cb (Cb (Cb (Cb M p (.dct jq! bc!)) f (.dct jp_ (ef+1))) f (.dct vf_ (Lk jp_ a0 (ef+1)))) p (.dct vg! (Lk jq! b0 bc!))):=by
  refine hR _ vj_ λb t6 t9=>?_
  .rw[ju!,ju_,ju_,ju!];exact h.ob
  .rw[jv!,jv_,jv_,jv!]
 simpa[Vk,Ao,Az,w2,wl,Bu,Dz,b9i,Il,Hi,Mx,Aa,fC,f2,h.ob,rZ,lkP,hf,hp,ze,zf,hn,km,zg,Ur,l1,l2,mup_ne,mup_same,oj,jq,h.ne,AK h.ne]using fin
def rJ{t:Ca}{M:Mh}{xs:b_}{R:v_}(h:dY!)(hl:i_<5000)(gf:ny_)(hR:R I! M):Oy t [.fn r] M R:=by
 obtain⟨kf,ef,kp,ep,hf,hp,K⟩:=h.dc;have step:∀(done rest:b_) (om:D) (tl:b_),xs=done++rest->rest++bL_=om::tl->∀R',R' (.nx [some aV!,some I!,some .non]) M->
   Ez r3! r4! (rest.length+1) [some aV!,some (.lst done),some om] M R':=by
  intro done rest
  induction rest generalizing done with
  |nil=>
   intro om tl e1 e2 R' gr;simp at e1 e2;obtain⟨rfl,_⟩:=e2;subst e1;simpa[Ez,Gc,fT,f2,Aa,fC,Bg,Fb]using gr
  |cons y rest ih=>
   intro om tl e1 e2 R' gr;simp only[FG,IL]at e2;obtain⟨rfl,rfl⟩:=e2;have hy:y∈xs:=by rw[e1];simp
   have y0:y≠.non:=λz=>K.no (z▸hy);obtain⟨k,ek⟩:=gf y hy;obtain⟨nx,tl,ev⟩:∃b0 v',rest++[D.non]=b0::v':=by cases rest with|nil=>exact bz_|cons a r=>exact bz_
   have km:kget kf y=some nx:=(gH_).mpr (by
    rw[e1,Rk,show D.non::(done++y::rest++bL_)=(D.non::done)++y::(rest++bL_)by simp,ev,Jt];simp)
   have O:done.length<big:=by have:=congrArg List.length e1;simp at this;unfold big;omega
   have:=ih (done++[y]) nx tl (by simp[e1]) ev R' gr;rw[AJ,Ez];simpa[Gc,fT,f2,Aa,fC,Bg,Sa y0,Ao,pZ,Hi,Zg,O,Az,w2,wl,Bu,Mx,h.ob,rZ,Ec,hf,ek,km]using this
 obtain⟨om,tl,ev⟩:∃b0 v',xs++[D.non]=b0::v':=by cases xs with|nil=>exact bz_|cons a r=>exact bz_
 have km:kget kf .non=some om:=(gH_).mpr (by rw[Rk,ev];simp[Rv]);refine m_;simp only[bA,Ao,pZ];simp[Hi,Ss,An,Az,w2,wl,Bu,Mx,Aa,fC,h.ob,rZ,Ec,hf,km,Ha,Io];refine⟨i_+1,step [] xs om tl rfl ev _ ?_⟩;simpa[Cn,wl,Aa]using hR
abbrev root:D:=.str "root"
abbrev Di:D:=.str "bin"
def a6w:root≠Di:=by intro z;simp only[D.str.injEq]at z;exact absurd z o!
nonrec def Oo(x:D):Prop:=∃a b,x=.tup vr_
nonrec def iH(x:D):Prop:=∃a b c,x=.tup vs!
def Oo.key(h:Oo x):∃k,Ha x=some k:=by obtain⟨a,b,rfl⟩:=h;exact J_
def iH.key(h:iH x):∃k,Ha x=some k:=by obtain⟨a,b,c,rfl⟩:=h;exact J_
def Oo.nn(h:Oo x):x≠.non/\x≠root/\x≠Di:=by obtain⟨a,b,rfl⟩:=h;refine⟨?_,?_,?_⟩<;>(intro z;cases z)
def iH.nn(h:iH x):x≠.non:=by obtain⟨a,b,c,rfl⟩:=h;intro z;cases z
structure OW where
 rows:List aA!
 its:List D
 txt:D->List dZ_
 num:D->List D
open Classical in
nonrec def chl(rows:g!)(x:D):List D:=(rows.filter λq=>q.2=x).map b!
open Classical in
nonrec def wo(rows:g!)(i:D):List aA!:=rows.filter λq=>q.1≠i
inductive Wn(rows:g!)(i:D):D->Prop
 |here:Wn rows i i
 |up {x p:D}:a8_∈rows->Wn rows i p->Wn rows i x
nonrec def gW(rows:g!)(i p s:D)(rows':g!):Prop:=∃u v,wo rows i=u++v/\rows'=u++bA_::v/\((s∉chl cD! p/\chl u p=[])\/∃u',u=u'++[cD_])
nonrec def Kh(W:OW)(x:D):Prop:=x∈W.its\/x=root\/x=Di
structure El(W:OW):Prop where
 nd:nB!
 nm:∀x∈W.its,Oo x
 rnd:(W.rows.map b!).Nodup
 ri:∀x,x∈W.rows.map b!↔x∈W.its
 rp:∀i p,bA_∈W.rows->Kh W p
 rk:∃rk:D->Nat,∀i p,bA_∈W.rows->rk p<rk i
 snd:∀x∈W.its,(nC_).Nodup
 sg:∀x∈W.its,∀q∈W.txt x,iH q.1
 su:∀x∈W.its,∀y∈W.its,∀q∈W.txt x,∀q'∈W.txt y,q.1=q'.1->x=y
 nl:∀x∈W.its,(e7_).length=4
section
open Classical
def Ta{q:D×D}:q∈wo rows i↔q∈rows/\q.1≠i:=by unfold wo;rw[DO];simp
def Eb:c∈chl rows x↔de!∈rows:=by
 unfold chl;rw[AZ];show"!Q"
 .rintro⟨⟨a,b⟩,h,rfl⟩;rw[DO]at h;have:=h.2;simp at this;rw[<-this];exact h.1
 .intro h;exact⟨de!,DO.mpr ⟨h,J!⟩,rfl⟩
def Iw:chl bj_ x=chl u x++chl v x:=by unfold chl;rw[JI,BJ]
def Ri:chl (bA_::v) p=i::chl v p:=by unfold chl;rw[CM c_];rfl
def gS(h:p≠x):chl (bA_::v) x=chl v x:=by unfold chl;rw[CN j9!]
def wV{rows:g!}:(d0!).Sublist ku_:=by unfold chl;exact(GX).map _
def Sj{rows:g!}:((cD!).map b!).Sublist ku_:=by unfold wo;exact(GX).map _
def gW.chl_same{rows:g!}(h:gJ!)(nd:cL_):chl rows' p=hW i s (chl cD! p):=by
 obtain⟨u,v,e,rfl,hc⟩:=h;rw[Iw,Ri];have bf:((bj_).map b!).Nodup:=by rw[<-e];exact nd.sublist Sj
 rcases hc with⟨B,Y⟩|⟨u',rfl⟩
 .unfold hW;rw[AI B,e,Iw,Y];rfl
 .rw[e];have hs:s∈chl vu! p:=Eb.mpr c_;unfold hW;have Y:chl (u'++[cD_]) p=chl u' p++[s]:=by rw[Iw,Ri];rfl
  have h3:chl vu! p=chl u' p++s::chl v p:=by rw[Iw,Y];simp
  rw[AQ hs,Y,h3];have hu:s∉chl u' p:=λz=>by
   have:=Eb.mp z;simp only[BJ,AH,FM,CQ]at bf;rw[BP]at bf;exact bf.2.2 _ vv! s c_ rfl
  rw[Tk hu];simp
def gW.chl_ne(h:gJ!)(L:p≠x):chl rows' x=chl cD! x:=by obtain⟨u,v,e,rfl,hc⟩:=h;rw[Iw,gS L,e,Iw]
def gW.mem(h:gJ!){q:D×D}:q∈rows'↔q=bA_\/q∈wo rows i:=by
 obtain⟨u,v,e,rfl,hc⟩:=h;rw[e];simp only[AR,AE];show"!Q"
 .rintro(z|z|z)<;>simp[z]
 .rintro(z|z|z)<;>simp[z]
def gW.nd{rows rows':g!}(h:gJ!)(nd:cL_):(rows'.map b!).Nodup:=by
 obtain⟨u,v,e,rfl,hc⟩:=h;have bf:((bj_).map b!).Nodup:=by rw[<-e];exact nd.sublist Sj
 have ni:i∉(bj_).map b!:=λz=>by
  obtain⟨q,hq,hi⟩:=AZ.mp z;rw[<-e]at hq;exact(nD!).2 hi
 simp only[BJ,AH]at bf ni ⊢;rw[BP]at bf ⊢;rw[AR,GO]at ni;refine⟨bf.1,AX.mpr ⟨ni.2,bf.2.1⟩,va_⟩;rcases AE.mp O with rfl|O
 .exact λz=>ni.1 jm!
 .exact vb_
def sH(h:(i,x)∉rows):chl cD! x=chl rows x:=by unfold chl wo;rw[GH];congr 1;apply EZ;intro q hq;simp only[ne_eq,decide_not,Bool.and_eq_left_iff_imp,BM,GR,EA,DZ];rintro rfl z;exact h vw!
def a5s{rows:g!}(nd:cL_)(h:(i,x)∈rows):∃u v,chl rows x=u++i::v/\chl cD! x=u++v:=by
 obtain⟨a,b,e,_⟩:=Wz h;have n1:i∉(a++b).map b!:=by
  rw[e]at nd;simp only[BJ,AH]at nd ⊢;rw[BP,AX]at nd;rw[AR,GO];exact⟨λz=>nd.2.2 _ z i c_ rfl,nd.2.1.1⟩
 have e2:wo rows i=a++b:=by
  unfold wo;rw[e,JI,CN c_];have keep:∀l:List aA!,i∉l.map b!->l.filter (λq=>decide (q.1≠i))=l:=λl hl=>DD.mpr λq hq=>by
   simp only[ne_eq,decide_not,GR,EA,DZ];exact λz=>hl jy!
  rw[BJ,AR,GO]at n1;rw[keep a n1.1,keep b n1.2]
 refine⟨chl a x,chl b x,?_,?_⟩
 .rw[e,Iw,Ri]
 .rw[e2,Iw]
def jM{rows:g!}(nd:cL_)(h:a8_∈rows)(L:x≠i):Wn rows i x↔Wn rows i p:=by
 show"!Q"
 .intro z;cases z with
  |here=>exact absurd rfl L
  |up Y z=>rw[Qd nd h Y];exact z
 .exact λz=>.up h z
def b2g(h:∀p,a8_∉rows)(L:x≠i):¬Wn rows i x:=λz=>by
 cases z with
 |here=>exact L rfl
 |up Y _=>exact h _ Y
def gW.winv{W:OW}(h:gW W.rows i p s rows')(w:El W)(hi:gJ_)(hp:Kh W p)(hw:¬Wn W.rows i p):El {W with rows:=rows'}:=by
 refine⟨w.nd,w.nm,h.nd w.rnd,jy_,jz!,?_,w.snd,w.sg,w.su,w.nl⟩
 .show x∈rows'.map b!↔x∈W.its;rw[<-w.ri x];show"!Q"
  .intro z;obtain⟨q,hq,rfl⟩:=AZ.mp z;rcases h.mem.mp hq with rfl|hq
   .exact(w.ri i).mpr hi
   .exact AM (nD!).1
  .intro z;by_cases L:x=i
   .subst L;exact AZ.mpr vy_
   .obtain⟨q,hq,rfl⟩:=AZ.mp z;exact AM (h.mem.mpr (.inr (Ta.mpr ⟨hq,L⟩)))
 .show Kh W b;rcases h.mem.mp hm with z|z
  .cases z;exact hp
  .exact w.rp _ _ (Ta.mp z).1
 .obtain⟨rk,gu⟩:=w.rk;refine⟨λx=>if Wn W.rows i x then rk x+rk p+1 else rk x,jz!⟩;rcases h.mem.mp hm with z|z
  .cases z;show"#4";rw[AI hw,AQ .here];omega
  .obtain⟨z1,z2⟩:=Ta.mp z;have:=gu _ _ z1;have q:=jM w.rnd z1 z2;show"#4";by_cases c:Wn W.rows i a
   .rw[AQ c,AQ (q.mp c)];omega
   .rw[AI c,AI (λz=>c (q.mpr z))];exact this
nonrec def Kk(W:OW)(n:D)(rows':g!):OW:=⟨rows',W.its++[n],λx=>if x=n then[]else W.txt x,λx=>if x=n then[.int 0,.int 0,.int 0,.int 0]else W.num x⟩
def gW.winv_put{W:OW}(h:gW W.rows n p s rows')(w:El W)(hn:nE!)(ht:Oo n)(hp:Kh W p):El a9!:=by
 have nn:n∉W.rows.map b!:=λz=>hn ((w.ri n).mp z);have jr:wo W.rows n=W.rows:=by
  show"!e";exact λz=>nn jy!
 have pn:p≠n:=λz=>by
  rcases hp with q|q|q
  .exact hn (z▸q)
  .exact ht.nn.2.1 (z▸q)
  .exact ht.nn.2.2 (z▸q)
 have im:∀x,x∈(a9!).its↔x∈W.its\/x=n:=λx=>by simp[Kk]
 refine⟨?_,aU_,h.nd w.rnd,jy_,jz!,?_,aU_,aU_,jA!,aU_⟩
 .show(W.its++[n]).Nodup;rw[BP];exact⟨w.nd,J!,λa ha b O=>by simp at O;subst O;exact λz=>hn jm!⟩
 .rcases(cE!).mp L with z|rfl
  .exact w.nm x z
  .exact ht
 .rw[im,<-w.ri x];show x∈rows'.map b!↔_;show"!Q"
  .intro z;obtain⟨q,hq,rfl⟩:=AZ.mp z;rcases h.mem.mp hq with rfl|hq
   .exact .inr rfl
   .rw[jr]at hq;exact .inl (AM hq)
  .rintro(z|rfl)
   .obtain⟨q,hq,rfl⟩:=AZ.mp z;exact AM (h.mem.mpr (.inr (by rw[jr];exact hq)))
   .exact AZ.mpr vy_
 .have up:∀y,Kh W y->Kh a9! y:=λy hy=>by
   rcases hy with q|q
   .exact .inl ((im y).mpr (.inl q))
   .exact .inr q
  rcases h.mem.mp hm with z|z
  .cases z;exact up _ hp
  .rw[jr]at z;exact up _ (w.rp _ _ z)
 .obtain⟨rk,gu⟩:=w.rk;refine⟨λx=>if x=n then rk p+1 else rk x,jz!⟩;rcases h.mem.mp hm with z|z
  .cases z;show"#4";rw[AI pn,j!];omega
  .rw[jr]at z;have ha:a≠n:=λq=>nn (q▸AM (f:=b!) z);have O:b≠n:=λq=>by
    rcases w.rp _ _ z with y|y|y
    .exact hn (q▸y)
    .exact ht.nn.2.1 (q▸y)
    .exact ht.nn.2.2 (q▸y)
   show"#4";rw[AI ha,AI O];exact gu _ _ z
 .show((nG!).map b!).Nodup;split
  .simp
  .rename_i q;exact w.snd x nG_
 .show∀q∈nG!,iH q.1;split
  .intro q hq;cases hq
  .rename_i q;exact w.sg x nG_
 .show∀q∈nG!,∀q'∈(if y=n then[]else W.txt y),q.1=q'.1->x=y;split
  .intro q hq;cases hq
  .rename_i q1;split
   .intro q hq q' a9;cases a9
   .rename_i q2;exact w.su x ((nH!).resolve_right q1) y (((im y).mp hy).resolve_right q2)
 .show(vB_).length=4;split
  .rfl
  .rename_i q;exact w.nl x nG_
nonrec def b6y(b:D)(nw:ad!):List dZ_->List dZ_
 |[]=>[]
 |x::r=>if x.1=b then x::(nw++r)else x::b6y b nw r
nonrec def wrT(b:D)(nw l:ad!):List dZ_:=if b∈l.map b! then b6y b nw l else nw++l
def nF{u:ad!}{q:e9!}(hq:q.1=b):b∉u.map b!->b6y b nw (u++q::v)=u++q::(nw++v):=by
 induction u with
 |nil=>intro _;simp[b6y,hq]
 |cons x u ih=>
  intro h;rw[AH,AE,GO]at h;simp only[FG,b6y];rw[kY_,ih h.2]
def dC(b:D)(nw l:ad!):∃u v,l=u++v/\wrT b nw l=u++nw++v/\((u=[]/\b∉l.map b!)\/∃u' q,u=u'++[q]/\q.1=b/\b∉u'.map b!):=by
 by_cases h:b∈l.map b!
 .obtain⟨u,v,e,hu⟩:=Wz h;obtain⟨u',r,e1,e2,e3⟩:=List.map_eq_append_iff.mp e;obtain⟨q,v',e4,e5,e6⟩:=List.map_eq_cons_iff.mp e3;subst e4;refine⟨u'++[q],v',by simp[e1],?_,.inr ⟨u',q,rfl,e5,by rw[e2];exact hu⟩⟩;unfold wrT;rw[AQ h,e1,nF e5 (by rw[e2];exact hu)];simp
 .exact⟨[],l,rfl,by unfold wrT;rw[AI h];rfl,.inl ca_⟩
nonrec def setT(W:OW)(a:D)(l:ad!):OW:={W with txt:=λx=>if x=a then l else W.txt x}
def dJ{W:OW}{l:ad!}(w:El W)(ha:d1!)(B:(em_).Nodup)(Y:∀q∈l,iH q.1)(h3:∀q∈l,∀y∈W.its,∀q'∈W.txt y,q.1=q'.1->y=a):El nI!:=by
 refine⟨w.nd,w.nm,w.rnd,w.ri,w.rp,w.rk,aU_,aU_,jA!,w.nl⟩
 .show((nI_).map b!).Nodup;split
  .exact B
  .exact w.snd x L
 .show∀q∈nI_,iH q.1;split
  .exact Y
  .exact w.sg x L
 .show∀q∈nI_,∀q'∈(if y=a then l else W.txt y),q.1=q'.1->x=y;split
  .rename_i e1;subst e1;split
   .rename_i e2;intro _ _ _ _ _;exact e2.symm
   .intro q hq q' a9 e;exact(h3 q hq y hy q' a9 e).symm
  .split
   .rename_i e2;subst e2;intro q hq q' a9 e;exact h3 q' a9 x L q hq e.symm
   .exact w.su x L y hy
nonrec def sY(W:OW)(a:D)(l:b_):OW:={W with num:=λx=>if x=a then l else W.num x}
def a9x{l:b_}(w:El W)(hl:P!=4):El (sY W a l):=by
 refine⟨w.nd,w.nm,w.rnd,w.ri,w.rp,w.rk,w.snd,w.sg,w.su,aU_⟩;show(if x=a then l else W.num x).length=4;split
 .exact hl
 .exact w.nl x L
end
nonrec def oF(a1 a2 a3 a4 a5 a6:Addr):List ci_:=[("parents",.fn a1),("rows",.fn a2),("texts",.fn a3),("numbers",.fn a4),("written",.fn a5),("hidden",.fn a6)]
section
variable{a1 a2 a3 a4 a5 a6:Addr}
def oF1:List.lookup d1_ Z_=some (D.fn a1):=by kernel_rfl
def oF2:List.lookup dg_ Z_=some (D.fn a2):=by kernel_rfl
def oF3:List.lookup d2! Z_=some (D.fn a3):=by kernel_rfl
def oF4:List.lookup fa! Z_=some (D.fn a4):=by kernel_rfl
def oF5:List.lookup nJ! Z_=some (D.fn a5):=by kernel_rfl
def oF6:List.lookup vC_ Z_=some (D.fn a6):=by kernel_rfl
def oM1:List.lookup (Str.ofString "has") Z_=none:=by kernel_rfl
def oM2:List.lookup (Str.ofString "has_item") Z_=none:=by kernel_rfl
def oM3:List.lookup (Str.ofString "is_within") Z_=none:=by kernel_rfl
def oM4:List.lookup (Str.ofString "put") Z_=none:=by kernel_rfl
def oM5:List.lookup (Str.ofString "can_move") Z_=none:=by kernel_rfl
def oM6:List.lookup (Str.ofString "move") Z_=none:=by kernel_rfl
def oM7:List.lookup (Str.ofString "write") Z_=none:=by kernel_rfl
def oM8:List.lookup (Str.ofString "cut") Z_=none:=by kernel_rfl
def oM9:List.lookup (Str.ofString "set_number") Z_=none:=by kernel_rfl
def d6n:List.lookup (Str.ofString "children_of") Z_=none:=by kernel_rfl
def d6m:List.lookup (Str.ofString "signs_of") Z_=none:=by kernel_rfl
def d6l:List.lookup (Str.ofString "text_of") Z_=none:=by kernel_rfl
def d6k:List.lookup (Str.ofString "numbers_of") Z_=none:=by kernel_rfl
end
def rM:List.lookup (Str.ofString "put_behind") jB_=none/\List.lookup (Str.ofString "take_out") jB_=none/\List.lookup (Str.ofString "listed") jB_=none/\List.lookup (Str.ofString "holds") jB_=none:=⟨jC!,jC!,jC!,jC!⟩
inductive dB
 |ob|par|rows|texts|nums|writ|hid|rO (x:D)|rF (x:D)|rP (x:D)|tO (x:D)|tF (x:D)|tP (x:D)|nm (x:D)|oth
structure pY(t:Ca)(M:Mh)(o:Addr)(rl:bN_)(W:OW)(hb:Nat)(a1 a2 a3 a4 a5 a6:Addr)(k1 k2 k3 k4 k5 k6:g!):Prop where
 ob:M o=some vE!
 d1:∃e,M a1=some (.dct k1 e)
 d2:∃e,M a2=some (.dct k2 e)
 d3:∃e,M a3=some (.dct k3 e)
 d4:∃e,M a4=some (.dct k4 e)
 d5:∃e,M a5=some (.dct k5 e)
 d6:∃e,M a6=some (.dct k6 e)
 ro:rl o=.ob
 r1:rl a1=.par
 r2:rl a2=.rows
 r3:rl a3=.texts
 r4:rl a4=.nums
 r5:rl a5=.writ
 r6:rl a6=.hid
 p0:kget k1 root=some .non/\kget k1 Di=some .non
 pr:∀i p,bA_∈W.rows->kget k1 i=some p
 row:∀x,Kh W x->∃r f p,kget k2 x=some aV!/\Ic t M r f p bk_/\rl r=.rO x/\rl f=.rF x/\rl p=.rP x
 rown:∀x,¬Kh W x->kget k2 x=none
 txt:∀x,x∈W.its->∃r f p,kget k3 x=some aV!/\Ic t M r f p nC_/\rl r=.tO x/\rl f=.tF x/\rl p=.tP x
 txtn:∀x,x∉W.its->kget k3 x=none
 num:∀x,x∈W.its->∃q,kget k4 x=some bl!/\M q=some (.lst e7_)/\rl q=.nm x
 wr:∀x∈W.its,∀q∈W.txt x,kget k5 q.1=some q.2.1
 hi:∀x∈W.its,∀q∈W.txt x,(kget k6 q.1).isSome=!q.2.2
 hk:∀s,kget k6 s≠none->∃x,x∈W.its/\s∈(aF_).map b!
 l1:nJ_<=hb
 l2:k2.length<=hb
 l3:k3.length<=hb
 l4:k4.length<=hb
 l5:k5.length<=hb
 l6:k6.length<=hb
 lr:ax!<=hb
 lt:∀x∈W.its,(aF_).length<=hb
 live:∀b,rl b≠.oth->M b≠none
nonrec def Ep(t:Ca)(M:Mh)(o:Addr)(rl:bN_)(W:OW)(hb:Nat):Prop:=∃a1 a2 a3 a4 a5 a6 k1 k2 k3 k4 k5 k6,pY t M o rl W hb a1 a2 a3 a4 a5 a6 k1 k2 k3 k4 k5 k6
nonrec def Fr(M:Mh)(rl:bN_)(M':Mh)(af:bN_):Prop:=∀b,M b≠none->rl b=.oth->M' b=M b/\af b=.oth
def Fr.refl{M:Mh}{rl:bN_}:Fr M rl M rl:=λb _ h=>ca_
def Fr.trans{M M1 M2:Mh}{rl gg ua:bN_}(B:Fr M rl M1 gg)(Y:Fr M1 gg M2 ua):Fr M rl M2 ua:=λb O hr=>by
 show"!x"
section
variable{t:Ca}{M:Mh}{o:Addr}{rl:Addr->dB}{W:OW}{hb:Nat}{R:D->Mh->Prop}
def bZ{W:OW}(w:El W)(h:dh!):∃k,Ha x=some k:=by
 rcases h with h|rfl|rfl
 .exact(w.nm x h).key
 .exact J_
 .exact J_
def jJ{W:OW}(w:El W):∀c∈chl W.rows x,∃k,Ha c=some k:=λc hc=>by
 have:=Eb.mp hc;exact(w.nm c ((w.ri c).mp vv!)).key
def jI{W:OW}:(bk_).length<=ax!:=by have:=(wV (rows:=W.rows) (x:=x)).length_le;simpa using this
def a6i{W:OW}(w:El W)(L:cb_):∀c∈(aF_).map b!,∃k,Ha c=some k:=λc hc=>by
 obtain⟨q,hq,rfl⟩:=AZ.mp hc;exact(vG!).key
def pY.noOb{a1 a2 a3 a4 a5 a6:Addr}{k3:g!}(h:gM!)(hm:(Z_).lookup m=none):Gi t.B4 m M ax_:=by simp[Gi,h.ob,hm]
def a5e(h:aG!)(hk:fy!)(hR:R (.bl (open Classical in decide (Kh W x))) M):Ga t fa_ M R:=by
 obtain⟨a1,a2,a3,a4,a5,a6,k1,k2,k3,k4,k5,k6,h⟩:=h;obtain⟨e2,Y⟩:=h.d2;refine m_;have e3:(kget k2 x).isSome=(open Classical in decide (Kh W x)):=by
  by_cases z:Kh W x
  .obtain⟨r,f,p,e,_⟩:=h.row x z;rw[e];simp[z]
  .rw[h.rown x z];simp[z]
 rw[<-e3]at hR;simpa[Yp,Cn,w2,wl,Bu,Mx,Hi,Aa,h.ob,oF2,Pz,Y,hk]using hR
def Qp(h:aG!)(hk:fy!)(hR:R (.bl (open Classical in decide gN!)) M):Fv t fa_ M R:=by
 obtain⟨a1,a2,a3,a4,a5,a6,k1,k2,k3,k4,k5,k6,h⟩:=h;obtain⟨e2,Y⟩:=h.d3;refine m_;have e3:(kget k3 x).isSome=(open Classical in decide gN!):=by
  by_cases z:x∈W.its
  .obtain⟨r,f,p,e,_⟩:=h.txt x z;rw[e];simp[z]
  .rw[h.txtn x z];simp[z]
 rw[<-e3]at hR;simpa[Pn,Cn,w2,wl,Bu,Mx,Hi,Aa,h.ob,oF3,Pz,Y,hk]using hR
def nU(h:aG!)(w:El W)(hB:hb<4000)(L:dh!)(hR:vH_):Hf t fa_ M R:=by obtain⟨a1,a2,a3,a4,a5,a6,k1,k2,k3,k4,k5,k6,h⟩:=h;obtain⟨e2,Y⟩:=h.d2;obtain⟨k,hk⟩:=bZ w L;obtain⟨r,f,p,e,hr,_⟩:=h.row x L;refine m_;simp[Ml,Cn,w2,wl,Bu,Mx,Hi,Aa,h.ob,oF2,Ec,Y,hk,e,Cf,Al,Gi,hr.ob,rM];exact rJ hr (by have:=jI (W:=W) (x:=x);have:=h.lr;omega) (jJ w) hR
def oZ(h:aG!)(w:El W)(L:cb_)(hR:R (.lst e7_) M):Gd t fa_ M R:=by
 obtain⟨a1,a2,a3,a4,a5,a6,k1,k2,k3,k4,k5,k6,h⟩:=h;obtain⟨e4,h4⟩:=h.d4;obtain⟨k,hk⟩:=(w.nm x L).key;obtain⟨q,e,hq,_⟩:=h.num x L;have hl:(e7_).length<=big:=by rw[w.nl x L];decide
 refine m_;simpa[Nl,Cn,w1,Ac,Al,w2,wl,Bu,Mx,Hi,Aa,h.ob,oF4,Ec,h4,hk,e,a8g,kO,hq,hl]using hR
end
def sB:∀(xs ys:D!),Qi (xs.map D.int) (ys.map D.int)=(xs==ys)
 |[],[]=>by simp[Qi]
 |[],y::ys=>by simp[Qi]
 |x::xs,[]=>by simp[Qi]
 |x::xs,y::ys=>by simp[Qi,Ir,sB xs ys]
nonrec def Sd(d:D):Prop:=d=.non\/(∃x,d=.str x)\/(∃i,d=.int i)\/∃ns:List Int,d=.tup jq_
def a0x:∀{xs ys:D!},xs.map D.int=ys.map D.int->xs=ys
 |[],[],_=>rfl
 |[],_::_,h=>by simp at h
 |_::_,[],h=>by simp at h
 |x::xs,y::ys,h=>by
  simp only[AH,IL,D.int.injEq]at h;rw[h.1,a0x h.2]
def Wq(L:Sd x)(hy:Sd y):Ir x y=(open Classical in decide (x=y)):=by
 rcases L with rfl|⟨a,rfl⟩|⟨i,rfl⟩|⟨ns,rfl⟩<;>rcases hy with rfl|⟨b,rfl⟩|⟨j,rfl⟩|⟨ms,rfl⟩<;>simp[Ir,sB]
 all_goals
  rw[EJ]
  first
   |(simp only[FR,BM,D.tup.injEq];exact⟨λz=>by rw[z],a0x⟩)
   |(simp only[FR,BM])
   |simp
def rC:∀(ns:D!),Eg o2!=true
 |[]=>by simp[Eg]
 |n::ns=>by simp[Eg,Co,rC ns]
def Ju(h:Sd x):Co x=true:=by rcases h with rfl|⟨a,rfl⟩|⟨i,rfl⟩|⟨ns,rfl⟩<;>simp[Co,rC]
def a1t:∀(ns:D!),Hx o2!<=1
 |[]=>by simp[Hx]
 |n::ns=>by have:=a1t ns;simp[Hx,Oa];omega
def aB(h:Sd x):Oa x<=5:=by
 rcases h with rfl|⟨a,rfl⟩|⟨i,rfl⟩|⟨ns,rfl⟩<;>simp[Oa]
 have:=a1t ns;omega
def Oo.sd(h:Oo x):Sd x:=by obtain⟨a,b,rfl⟩:=h;exact .inr nK_
def iH.sd(h:iH x):Sd x:=by obtain⟨a,b,c,rfl⟩:=h;exact .inr vJ!
def Pj(x:Str):Sd dI!:=.inr (.inl ⟨x,rfl⟩)
def vW{W:OW}(w:El W)(h:dh!):Sd x:=by
 rcases h with h|rfl|rfl
 .exact(w.nm x h).sd
 .exact Pj _
 .exact Pj _
def uN(L:Sd x)(hy:Sd y):Hw x y=some (.bl (!(open Classical in decide (x=y)))):=by unfold Hw;have:=aB L;rw[Ju L,Ju hy,Wq L hy];rw[d3!]
def cL(L:Sd x)(hy:Sd y):Cg x y=some (.bl (open Classical in decide (x=y))):=by unfold Cg;have:=aB L;rw[Ju L,Ju hy,Wq L hy];rw[d3!]
section
variable{t:Ca}{M:Mh}{o:Addr}{rl:Addr->dB}{W:OW}{hb:Nat}{R:D->Mh->Prop}
def Ic.keep{M':Mh}(h:dY!)(e1:M' r=M r)(e2:M' f=M f)(e3:M' p=M p):Ic t M' r f p xs:=by obtain⟨kf,ef,kp,ep,hf,hp,K⟩:=h.dc;exact⟨e1.trans h.ob,⟨kf,ef,kp,ep,e2.trans hf,e3.trans hp,K⟩,h.ne⟩
def Ic.live(h:dY!):M r≠none/\M f≠none/\M p≠none:=by obtain⟨kf,ef,kp,ep,hf,hp,K⟩:=h.dc;exact⟨by rw[h.ob];simp,by rw[hf];simp,by rw[hp];simp⟩
def bJ{ρ:Ag}(hR:∀r f p M',M r=none->M f=none->M p=none->r≠f->r≠p->Ic t M' r f p []->(∀b,b≠r->b≠f->b≠p->M' b=M b)->R aV! M'):Oi t.B5 1 (Nr t) Al ρ M R:=by
 refine⟨rfl,λr hr=>m_⟩;have nf:∀{f:Addr},Cb M r (.obj t.B5 []) f=none->f≠r/\M f=none:=λ{f} z=>by
  by_cases e:f=r
  .rw[e,mup_same]at z;cases z
  .rw[mup_ne e]at z;exact⟨e,z⟩
 simp only[zB,Ao,Hj];intro f hf;obtain⟨f1,f2⟩:=nf hf;refine⟨mup_same,W!,by simp[Ha],J!,?_⟩;simp[wl,Aa,mup_ne,mup_same,AK f1,Dg];intro p hp;have p1:p≠r:=λe=>by rw[e,mup_same]at hp;cases hp
 rw[nL!]at hp;have p2:p≠f:=λe=>by rw[e,mup_same]at hp;cases hp
 rw[mup_ne p2,mup_ne p2,nL!]at hp;simp[Im,aJ,wl,fC,Aa,mup_ne,mup_same,AK f1,AK p1,Dg,Ha];have b7:¬(Str.ofString "following"=Str.ofString "preceding"):=by decide+kernel
 simp only[b7,BW];refine hR r f p _ hr f2 hp (AK f1) (AK p1) ⟨mup_same,⟨jk!,1,jk!,1,?_,?_,b3m⟩,AK p2⟩ λb B Y h3=>?_
 .rw[mup_ne f1,vL_,vL_,mup_ne f1,mup_same]
 .rw[nL!,mup_same]
 .rw[cc!,nL_,nL_,cc!,cF!,cF!,cc!]
def a3p{W:OW}(w:El W)(h:cb_):∃p,a8_∈W.rows:=by obtain⟨⟨a,p⟩,hq,rfl⟩:=AZ.mp ((w.ri x).mpr h);exact⟨p,hq⟩
def eI{W:OW}(w:El W)(h:x∉W.its):∀p,a8_∉W.rows:=λp z=>h ((w.ri x).mp u7_)
def a6u{W:OW}(w:El W):root∉W.its:=λz=>(w.nm _ z).nn.2.1 rfl
def b8m{W:OW}(w:El W):Di∉W.its:=λz=>(w.nm _ z).nn.2.2 rfl
def d1f(h:Oo x\/x=root\/x=Di):x≠.non:=by
 rcases h with h|rfl|rfl
 .exact h.nn.1
 .show"!h"
 .show"!h"
def c8b{W:OW}(w:El W)(h:dh!):x≠.non:=d1f (h.imp_left (w.nm x))
def fK{k3:g!}(h:gM!)(w:El W)(hi:Oo i){rk:D->Nat}(gu:vM_):
  ∀(n:Nat) (x:D),rk x<n->Kh W x->∀(R':q_),(Wn W.rows i x->R' (.nx [z!,I_,I_]) M)->(¬Wn W.rows i x->R' (.nx [z!,some .non,I_]) M)->
   ∃m,Ez gg! gg_ m nM! M R'
 |0,x,hn,_,_,_,_=>by omega
 |n+1,x,hn,L,R',r1,r2=>by
  obtain⟨e1,B⟩:=h.d1;have x0:=c8b w L;have ne:=uN (vW w L) hi.sd;by_cases e:x=i
  .subst e;have:=r1 .here;refine fb!;simpa[Ez,Gc,Gb,fT,f2,Aa,fC,Bg,Sa x0,ne]using this
  .have st:∀(p:D) (m:Nat),kget k1 x=some p->Ez gg! gg_ m [z!,cc_,I_] M R'->
     Ez gg! gg_ (m+1) nM! M R':=λp m hp hw=>by
    obtain⟨k,hk⟩:=bZ w L;rw[Ez];simpa[Gc,Gb,fT,f2,Aa,fC,Bg,Sa x0,ne,e,Az,w2,wl,Bu,Mx,Hi,h.ob,oF1,Ec,B,hk,hp]using hw
   have top:kget k1 x=some .non->vP_->∃m,Ez gg! gg_ m nM! M R':=λhp hr=>by
    have:=r2 (b2g hr e);refine⟨1+1,st .non 1 hp ?_⟩;simpa[Ez,Gc,Gb,fT,f2,Aa,fC,Bg,Fb]using this
   rcases L with L|rfl|rfl
   .obtain⟨p,hp⟩:=a3p w L;have q:=jM w.rnd hp e;have:=gu _ _ hp;obtain⟨m,hm⟩:=fK h w hi gu n p a! (w.rp _ _ hp) R' vQ! (λz=>r2 λy=>z (q.mp y));exact⟨m+1,st p m (h.pr _ _ hp) hm⟩
   .exact top h.p0.1 (eI w (a6u w))
   .exact top h.p0.2 (eI w (b8m w))
def vV(h:aG!)(w:El W)(L:dh!)(hi:Oo i)(hR:R (.bl (open Classical in decide (Wn W.rows i x))) M):Ke t [aV_,x,i] M R:=by
 obtain⟨a1,a2,a3,a4,a5,a6,k1,k2,k3,k4,k5,k6,h⟩:=h;obtain⟨rk,gu⟩:=w.rk;obtain⟨m,hm⟩:=fK h w hi gu (rk x+1) x a! L (λr M1=>match r with|.nx ai=>Cn (wl iq!) ai M1 gP_|.rt d=>R d M1)
  (λz=>by simp only[z,HQ]at hR;simpa[Cn,wl,f2,Aa,fC,Bg,Sa hi.nn.1]using hR)
  (λz=>by simp only[z,IH]at hR;simpa[Cn,wl,f2,Aa,fC,Bg,Fb]using hR)
 refine m_;simp only[Om,Ao,Io];exact⟨m,hm⟩
def a2c(h:aG!)(w:El W)(cn:fb_)(gf:nN_)(hR:∀b:Bool,(b=true↔d3_)->R bH_ M):Lb t [aV_,i,x] M R:=by
 have h':=h;show"!3";simp only[Po,Cn,Yf,wT,Cf,wl,Ac,Al,Aa];simp[nO!];show"!j"
 .simp only[c1,HQ,CF];refine⟨hA.noOb oM1,?_⟩;refine a5e h gf ?_;by_cases c2:Kh W x
  .simp only[c2,HQ,CF,b2l,wT,Cf,wl,Ac,Al,Aa];refine⟨hA.noOb oM3,rfl,?_⟩;refine vV h w c2 (w.nm i c1) ?_;exact hR _ (by simp[c1,c2])
  .simp only[c2,IH];exact hR _ (by simp[c2])
 .simp only[c1,IH];exact hR _ (by simp[c1])
def oM{p n:Int}(h:aG!)(w:El W)(cn:fb_)(p0:0<=p)(p3:p<=3)
  (hR:∀M',Ep t M' o rl (open Classical in if i∈W.its then sY W i nO_ else W) hb->Fr M rl M' rl->R .non M'):Jp t [aV_,i,.int p,aN_] M R:=by
 have h':=h;show"!3";simp only[Nk,Bs,wT,Cf,wl,Ac,Al,Aa];simp[Gi,hA.ob,oM2];show"!j"
 .simp only[c1,CF]at hR;obtain⟨e4,h4⟩:=hA.d4;obtain⟨q,e,hq,ju⟩:=hA.num i c1;have L:Ig (jF_).length p=some p.toNat:=by
   rw[w.nl i c1];unfold Ig;rw[AQ p0,Y_]
  have ar:∀b,rl b≠.nm i->Cb M q (.lst nO_) b=M b:=λb O=>mup_ne λz=>O vV!;have fin:R .non (Cb M q (.lst nO_)):=by
   refine hR _ ⟨a1,a2,a3,a4,a5,a6,k1,k2,k3,k4,k5,k6,?_⟩ λb O hr=>qL!;refine{hA with ob:=?_,d1:=?_,d2:=?_,d3:=?_,d4:=?_,d5:=?_,d6:=?_,row:=?_,txt:=?_,num:=?_,live:=?_}
   .rw[ar o O!];exact hA.ob
   .rw[ar a1 bO!];exact hA.d1
   .rw[ar a2 ay_];exact hA.d2
   .rw[ar a3 aW!];exact hA.d3
   .rw[ar a4 aW_];exact hA.d4
   .rw[ar a5 aO!];exact hA.d5
   .rw[ar a6 az!];exact hA.d6
   .show"!y"
   .intro x L;obtain⟨r,f,p',g1,g2,g3,g4,g5⟩:=hA.txt x L;exact nP_
   .intro x L;by_cases c:x=i
    .subst c;refine⟨q,e,?_,ju⟩;rw[mup_same];simp[sY]
    .obtain⟨q',g1,g2,g3⟩:=hA.num x L;refine⟨q',g1,?_,g3⟩;rw[ar q' (by rw[g3];simpa using c),g2];simp[sY,c]
   .intro b O;by_cases c:b=q
    .rw[c,mup_same];simp
    .rw[mup_ne c];show"#2"
  simpa[c1,Dz,w2,wl,Bu,Mx,Hi,Aa,hA.ob,oF4,Ec,h4,cn,e,Ur,hq,L]using fin
 .simp only[c1,BW]at hR;have:=hR M h .refl;simpa[c1,Eu]using this
end
end K26
namespace K26
open PySem L2 DL
open Classical
section
variable{t:Ca}{M:Mh}{o:Addr}{rl:Addr->dB}{W:OW}{hb:Nat}{R:D->Mh->Prop}
def Ep.mono{B':Nat}(h:aG!)(O:hb<=B'):Ep t M o rl W B':=by obtain⟨a1,a2,a3,a4,a5,a6,k1,k2,k3,k4,k5,k6,hA⟩:=h;exact⟨a1,a2,a3,a4,a5,a6,k1,k2,k3,k4,k5,k6,{hA with l1:=BN hA.l1 O,l2:=BN hA.l2 O,l3:=BN hA.l3 O,l4:=BN hA.l4 O,l5:=BN hA.l5 O,l6:=BN hA.l6 O,lr:=BN hA.lr O,lt:=λx L=>BN jG! O}⟩
def dM(i:D):setT W i bl_=W:=by
 unfold setT;cases W with
 |mk a b c d=>
  congr 1;funext x;show"#4";split
  .rename_i e;rw[e]
  .rfl
open Classical in
nonrec def cutT(cp:b_)(l:ad!):List dZ_:=l.map λq=>nQ!
def b8c(l:ad!):cutT [] l=l:=by unfold cutT;simp
def aD(g:b_)(l:ad!):(cutT g l).map b!=l.map b!:=by unfold cutT;simp
def a1y(g:b_)(s:D)(l:ad!):cutT [s] (cutT g l)=cutT (g++[s]) l:=by unfold cutT;rw[CB];apply CJ;intro q _;simp only[Function.comp,AR];congr 2;rw[Bool.and_assoc];congr 1;by_cases B:q.1∈g<;>by_cases Y:q.1∈[s]<;>simp[B,Y]
def c3f{l:ad!}(h:s∉l.map b!):cutT [s] l=l:=by
 unfold cutT
 conv=>rhs;rw[<-List.map_id l]
 apply CJ;intro q hq;have:q.1≠s:=λz=>h jy!;simp[this]
def sE(w:El W)(hi:gJ_)(g:b_):El nQ_:=by
 refine dJ w hi (by rw[aD];exact w.snd i hi) dj! nR!
 .show"!:";exact w.sg i hi q0 h0
 .show"!:";exact(w.su i hi y hy q0 h0 q' a9 e).symm
def dL(i:D)(l l':ad!):setT (setT W i l) i l'=setT W i l':=by unfold setT;congr 1;funext x;dsimp only;split<;>rfl
def iO(i:D)(l:ad!):(setT W i l).txt i=l:=by simp[setT]
def c2h{ks:MK}{k3:g!}{e6:Nat}(hA:gM!)(w:El W)(hi:gJ_)(hs:s∈(bl_).map b!):
  pY t (Cb M a6 nS_) o rl nT! fd_ a1 a2 a3 a4 a5 a6 k1 k2 k3 k4 k5 nS!/\Fr M rl (Cb M a6 nS_) rl:=by
 have ar:∀b,rl b≠.hid->Cb M a6 nS_ b=M b:=λb O=>mup_ne λz=>O (by rw[z];exact hA.r6);refine⟨?_,λb O hr=>qL!⟩;have up:∀{x:Nat},x<=hb->x<=hb+1:=λh=>Nat.le_succ_of_le h;refine{hA with ob:=?_,d1:=?_,d2:=?_,d3:=?_,d4:=?_,d5:=?_,d6:=jI!,row:=?_,txt:=?_,num:=?_,live:=?_,wr:=?_,hi:=?_,l1:=up hA.l1,l2:=up hA.l2,l3:=up hA.l3,l4:=up hA.l4,l5:=up hA.l5,l6:=BN dY_ (Nat.succ_le_succ hA.l6),lr:=up hA.lr,lt:=?_,hk:=?_}
 .rw[ar o O!];exact hA.ob
 .rw[ar a1 bO!];exact hA.d1
 .rw[ar a2 ay_];exact hA.d2
 .rw[ar a3 aW!];exact hA.d3
 .rw[ar a4 aW_];exact hA.d4
 .rw[ar a5 aO!];exact hA.d5
 .show"!y"
 .intro x L;obtain⟨r,f,p',g1,g2,g3,g4,g5⟩:=hA.txt x L;refine⟨r,f,p',g1,?_,g3,g4,g5⟩;have e:((nT!).txt x).map b!=(aF_).map b!:=by
   show vY_;split
   .rename_i z;rw[z,aD]
   .rfl
  rw[e];exact g2.keep (ar _ di_) (ar _ d5!) (ar _ d5_)
 .intro x L;obtain⟨q,g1,g2,g3⟩:=hA.num x L;exact⟨q,g1,(ar q di_).trans g2,g3⟩
 .show∀x∈W.its,∀q∈jI_,kget k5 q.1=some q.2.1;intro x L;split
  .intro q hq;show"!:";exact hA.wr i hi q0 h0
  .exact hA.wr x L
 .show∀x∈W.its,∀q∈jI_,(kget nS! q.1).isSome=!q.2.2;intro x L;split
  .intro q hq;show"!:";show"#4";by_cases c:q0.1=s
   .rw[c,Gv];simp
   .rw[Hb (AK c),hA.hi i hi q0 h0];simp[c]
  .rename_i c;intro q hq;have:s≠q.1:=λz=>by
    obtain⟨q0,h0,e0⟩:=AZ.mp hs;exact c (w.su x L i hi q hq q0 h0 (by rw[<-z,e0]))
   rw[Hb this];exact hA.hi x L q hq
 .intro s' bu;have nm:∀x,((nT!).txt x).map b!=(aF_).map b!:=λx=>by
   show vY_;split
   .rename_i z;rw[z,aD]
   .rfl
  by_cases c:s=s'
  .subst c;exact⟨i,hi,by rw[nm];exact hs⟩
  .rw[Hb c]at bu;obtain⟨x,B,Y⟩:=hA.hk s' bu;exact⟨x,B,by rw[nm];exact Y⟩
 .show∀x∈W.its,(jI_).length<=hb+1;intro x L;split
  .rw[show(vY!).length=(bl_).length by unfold cutT;simp];exact up (hA.lt i hi)
  .exact up jG!
 .intro b O;by_cases c:b=a6
  .rw[c,mup_same];simp
  .rw[mup_ne c];show"#2"
abbrev d3o(t:Ca):WS:=(Ao sp_
 sr!)
def nR{x y z m:Int}(hi:gJ_)(w:El W):∀(js:D!) (M:Mh) (g:b_) (hb:Nat) (s9 zh:ad_) (R:q_),hb+js.length<4000->Ep t M o rl nQ_ hb->
  (∀M' ρ,Ep t M' o rl (setT W i (cutT (g++js.map λj=>.tup jK!) bl_)) (hb+js.length)->Fr M rl M' rl->R an_ M')->
  Kf eI_ F! (d3o t) (js.map .int) [z!,I_,some d6_,some bP!,s9,zh] M R
 |[],M,g,hb,s9,zh,R,hB,h,hR=>⟨trivial,hR M _ j9! .refl⟩
 |j::js,M,g,hb,s9,zh,R,hB,h,hR=>by
  refine aO_;have w2:=sE w hi g;obtain⟨ki,cn⟩:=(gR!).key;have iw:=h;obtain⟨a1,a2,a3,a4,a5,a6,k1,k2,k3,k4,k5,k6,hA⟩:=iw;obtain⟨r,f,p,g1,g2,g3,g4,g5⟩:=hA.txt i hi;obtain⟨e3,h3⟩:=hA.d3;obtain⟨e6,h6⟩:=hA.d6;have l6:k6.length<big:=by have:=hA.l6;unfold big;simp at hB;omega
  simp only[AJ]at hB hR;have ub:Bb jL! (.tup [eH!])=some gR_:=by simp[Bb,big]
  have uc:Cy d6_ none (some 2)=some jL!:=by simp[Cy,Ge,HT.sIx]
  simp[Hi,Dk,Ao,Az,wl,f2,Je,Aa,Bw,Bv,fC,Bz,Ad,An,uc,ub,Bs,wT,Cf,DL.w2,Bu,Mx,hA.ob,oF3,Ec,h3,cn,g1,Gi,g2.ob,Ac,Al,rM,-List.lookup_eq_none_iff];refine a1b g2 gK! ?_;rw[iO]at g2;by_cases c:D.tup jK!∈((nQ_).txt i).map b!
  .simp only[c,HQ,CF];obtain⟨q1,q2⟩:=c2h (ks:=none) (e6:=Lk k6 gR_ e6) hA w2 hi c;rw[dL,iO,a1y]at q1;have:=nR (z:=z) (m:=m) hi w js _ nV! fd_ (some dk!) (some gR_) R a! v0! (λM' ρ h' f'=>hR M' ρ v0_ (q2.trans f'));simpa[Dz,wl,Bu,Mx,Hi,Aa,fC,hA.ob,oF6,Ur,h6,show Ha gR_=some _ from rfl,l6]using this
  .simp only[c,IH];have q1:Ep t M o rl (setT W i (cutT nV! bl_)) fd_:=by
    rw[<-a1y,c3f (by rw[iO]at c;exact c)];exact h.mono (HS hb)
   have:=nR (z:=z) (m:=m) hi w js M nV! fd_ (some dk!) (some gR_) R a! q1 (λM' ρ h' f'=>hR M' ρ v0_ f');simpa[Eu]using this
def c9e{x y z m:Int}(h:aG!)(w:El W)(cn:fb_)(hB:gS!)(z0:0<=z)(m1:1<=m)(TZ:z+m<=16)
  (hR:∀M',Ep t M' o rl (open Classical in if i∈W.its then setT W i (cutT v1! bl_)else W) a9_->Fr M rl M' rl->R .non M'):
  Rh t [aV_,i,.tup jK_,d8!] M R:=by
 have h':=h;show"!3";simp only[Yq,Ao,Bs,Uy,wT,Cf,wl,Ac,Al,Aa];simp[nO!];show"!j"
 .simp only[c1,CF]at hR;have hr:vZ dP! so_ [z!,I_,some d6_,some bP!,none,none]=some ((v1_).map D.int):=by
   have e1:Ar d6_ bv_=some (.int z):=rfl;have e2:(z+m - z).toNat=m.toNat:=by congr 1;omega
   have b:-1000<=z/\z<=100000/\-1000<=z+m/\z+m<=100000:=by omega
   simp[vZ,f2,Aa,fC,e1,Bb,b,e2,tV,Function.comp]
  have:=nR (t:=t) (o:=o) (rl:=rl) (x:=x) (y:=y) (z:=z) (m:=m) c1 w v1_ M [] hb none none gP_ bJ! (by rw[b8c,dM];exact h) (λM' ρ Y f2=>hR M' (by
   simp only[CZ,CB,AU,EY]at Y;exact Y.mono a!) f2)
  simp only[c1,HQ,EA,BI,BW,Eu,Fn,Qu,Hi,hr];exact this
 .simp only[c1,BW]at hR;have:=hR M (h.mono a!) .refl;simpa[c1,jO]using this
nonrec def Beh(cy:D)(U l:ad!):Prop:=(U=[]/\cy∉l.map b!)\/∃u' q,U=u'++[q]/\q.1=cy/\cy∉u'.map b!
def Beh.names(h:v2!):hW s cy ((U++v).map b!)=(v2_).map b!:=by
 rcases h with⟨rfl,h⟩|⟨u',q,rfl,e,h⟩
 .unfold hW;rw[AI h];simp
 .unfold hW;rw[AQ gT!];simp only[BJ,AH,FM,CQ,FG,CZ];rw[e,Tk h]
def b2d{M1:Mh}{e5:Nat}{k3:g!}(hA:gM!)(w:El W)(hi:gJ_)
  (hl:W.txt i=U++v)(O:v2!)(hs:iH s)(hf:∀x∈W.its,s∉(aF_).map b!)(g3:rl r=.tO i)(g4:rl f=.tF i)(g5:rl p=.tP i)(g1:kget k3 i=some aV!)
  (hr:Ic t M1 r f p (hW s cy ((bl_).map b!)))(fr:∀b,b≠f->b≠p->M1 b=M b):
  pY t v4_ o rl nX_ fd_ a1 a2 a3 a4 a5 a6 k1 k2 k3 k4 (Bi k5 s c) k6/\Fr M rl v4_ rl/\El nX_:=by
 have ar:∀b,rl b≠.writ->rl b≠.tF i->rl b≠.tP i->Cb M1 a5 nX! b=M b:=λb B Y h3=>by
  rw[mup_ne λz=>B v5!];exact fr b (λz=>Y (by rw[z];exact g4)) (λz=>h3 (by rw[z];exact g5))
 have up:∀{x:Nat},x<=hb->x<=hb+1:=λh=>Nat.le_succ_of_le h;have n5:∀b,rl b≠.writ->Cb M1 a5 nX! b=M1 b:=λb B=>mup_ne λz=>B v5!;have tx:∀x,(nX_).txt x=if x=i then U++(s,c,true)::v else W.txt x:=λx=>rfl
 have si:s∉(U++v).map b!:=by rw[<-hl];exact hf i hi
 refine⟨?_,λb cg wc=>⟨ar b nY! nY! nY!,wc⟩,?_⟩
 .refine{hA with ob:=?_,d1:=?_,d2:=?_,d3:=?_,d4:=?_,d5:=jI!,d6:=?_,row:=?_,txt:=?_,num:=?_,live:=?_,wr:=?_,hi:=?_,hk:=?_,l1:=up hA.l1,l2:=up hA.l2,l3:=up hA.l3,l4:=up hA.l4,l5:=BN dY_ (Nat.succ_le_succ hA.l5),l6:=up hA.l6,lr:=up hA.lr,lt:=?_}
  .rw[ar o O! O! O!];exact hA.ob
  .rw[ar a1 bO! bO! bO!];exact hA.d1
  .rw[ar a2 ay_ ay_ ay_];exact hA.d2
  .rw[ar a3 aW! aW! aW!];exact hA.d3
  .rw[ar a4 aW_ aW_ aW_];exact hA.d4
  .rw[ar a6 az! az! az!];exact hA.d6
  .intro x L;obtain⟨r',f',p',q1,q2,q3,q4,q5⟩:=hA.row x L;exact⟨r',f',p',q1,q2.keep v5_ (ar _ gT_ gT_ gT_) (ar _ gU! gU! gU!),q3,q4,q5⟩
  .intro x L;by_cases z:x=i
   .subst z;refine v6!;rw[tx,j!,<-O.names,<-hl];exact hr.keep (n5 _ di_) (n5 _ d5!) (n5 _ d5_)
   .obtain⟨r',f',p',q1,q2,q3,q4,q5⟩:=hA.txt x L;refine⟨r',f',p',q1,?_,q3,q4,q5⟩;rw[tx,AI z];exact q2.keep v5_ (ar _ gT_ (by rw[q4];simpa using z) gT_) (ar _ gU! gU! (by rw[q5];simpa using z))
  .intro x L;obtain⟨q,q1,q2,q3⟩:=hA.num x L;exact⟨q,q1,(ar q ff_ ff_ ff_).trans q2,q3⟩
  .intro x L q hq;rw[tx]at hq;by_cases z:x=i
   .subst z;rw[j!]at hq;rcases AR.mp hq with q0|q0
    .rw[Hb λy=>si (by rw[y];exact AM (BG _ q0))];exact hA.wr x hi q jM_
    .rcases AE.mp q0 with rfl|q0
     .rw[Gv]
     .rw[Hb λy=>si (by rw[y];exact AM (AS _ q0))];exact hA.wr x hi q jN!
   .rw[AI z]at hq;rw[Hb λy=>hf x L (by rw[y];exact AM hq)];exact hA.wr x L q hq
  .intro x L q hq;rw[tx]at hq;by_cases z:x=i
   .subst z;rw[j!]at hq;rcases AR.mp hq with q0|q0
    .exact hA.hi x hi q jM_
    .rcases AE.mp q0 with rfl|q0
     .cases q:kget k6 s with
      |none=>simp[q]
      |some y=>
       obtain⟨x',B,Y⟩:=hA.hk s b9_;exact absurd Y (hf x' B)
     .exact hA.hi x hi q jN!
   .rw[AI z]at hq;exact hA.hi x L q hq
  .intro s' bu;obtain⟨x,B,Y⟩:=hA.hk s' bu;refine⟨x,B,?_⟩;rw[tx];by_cases z:x=i
   .subst z;rw[j!];rw[hl]at Y;simp only[BJ,AH,AR,AE]at Y ⊢;rcases Y with Y|Y
    .exact .inl Y
    .exact .inr (.inr Y)
   .rw[AI z];exact Y
  .intro x L;rw[tx];by_cases z:x=i
   .subst z;rw[j!];have:=hA.lt x hi;rw[hl]at this;simp at this ⊢;omega
   .rw[AI z];exact up jG!
  .intro b cg;by_cases z:b=a5
   .rw[z,mup_same];simp
   .rw[jN_];by_cases z1:b=f
    .rw[z1];exact hr.live.2.1
    .by_cases z2:b=p
     .rw[z2];exact hr.live.2.2
     .rw[fr b z1 z2];exact hA.live b cg
 .refine dJ w hi ?_ dj! nR!
  .have:=w.snd i hi;rw[hl]at this;simp only[BJ,AH]at this si ⊢;rw[BP]at this ⊢;rw[AR,GO]at si;refine⟨this.1,AX.mpr ⟨si.2,this.2.1⟩,λa ha b cg=>?_⟩;rcases AE.mp cg with rfl|cg
   .exact λz=>si.1 jm!
   .exact this.2.2 a ha b cg
  .rcases AR.mp hq with q0|q0
   .exact w.sg i hi q jM_
   .rcases AE.mp q0 with rfl|q0
    .exact hs
    .exact w.sg i hi q jN!
  .rcases AR.mp hq with q0|q0
   .exact(w.su i hi y hy q jM_ q' a9 e).symm
   .rcases AE.mp q0 with rfl|q0
    .have e':s=q'.1:=e;exact absurd (by rw[e'];exact AM a9) (hf y hy)
    .exact(w.su i hi y hy q jN! q' a9 e).symm
nonrec def wrB(t:Ca):WS:=(Ao mp!
 (Ao sk!
 (Ao sk_
 (Az 5 hB!))))
nonrec def sgn(h n:Int)(q:Nat×Nat):D×D×Bool:=(.tup [aX_,aN_,lb!],.str ⟨#[q.1]⟩,true)
nonrec def eN(q:Nat×Nat):D:=.tup Au!
def jL{h n:Int}:∀(cs:j_) (k0:Nat) (M:Mh) (W:OW) (hb:Nat) (U v:ad!) (cy:D) (ka:MK) (zi zj qg:ad_) (R:q_),hb+cg!<4000->Ep t M o rl W hb->El W->i∈W.its->W.txt i=U++v->Beh cy U (U++v)->Ha cy=some ka->
  (∀x∈W.its,∀k':Nat,k0<=k'->D.tup v7_∉(aF_).map b!)->
  (∀M' ρ,Ep t M' o rl v8! (hb+cg!)->El v8!->Fr M rl M' rl->R an_ M')->
  Kf (a9f 6 7) F! (wrB t) ((nZ!).map eN) [z!,bn_,I_,ea!,some tx,some cy,zi,zj,qg] M R
 |[],k0,M,W,hb,U,v,cy,ka,zi,zj,qg,R,hB,hO,w,hi,hl,O,hk,hf,hR=>by
  refine⟨trivial,hR M _ ?_ ?_ .refl⟩
  .simp only[IJ,FM,BL,EG,Nat.add_zero];rw[<-hl,dM];exact hO
  .simp only[IJ,FM,BL];rw[<-hl,dM];exact w
 |c::cs,k0,M,W,hb,U,v,cy,ka,zi,zj,qg,R,hB,hO,w,hi,hl,O,hk,hf,hR=>by
  rw[EM,AH];refine aO_;obtain⟨ki,cn⟩:=(gR!).key;obtain⟨a1,a2,a3,a4,a5,a6,k1,k2,k3,k4,k5,k6,hA⟩:=hO;obtain⟨r,f,p,g1,g2,g3,g4,g5⟩:=hA.txt i hi;obtain⟨e3,h3⟩:=hA.d3;obtain⟨e5,h5⟩:=hA.d5;simp only[AJ]at hB hR;have l5:k5.length<big:=by have:=hA.l5;unfold big;omega
  have hs:iH cg_:=wb!;have zk:∀x∈W.its,D.tup jP_∉(aF_).map b!:=λx L=>hf x L k0 x_;have ub:Bb ae! (.tup [.int (k0:Nat)])=some cg_:=by simp[Bb,big]
  have hm:Gi t.B5 "put_behind" M aV!:=by simp only[Gi,g2.ob,rM.1,and_self]
  have L:∀R',w2 Ec eH_ M! n0! M R'=R' aV! M:=by
   intro R';simp[w2,wl,Bu,Mx,hA.ob,oF3,Ec,h3,cn,g1,Hi,Aa]
  show wrB t n0_ M _;show Ao mp! _ n0_ M _;have e8:f2 Bb s_ (Bz iA!) n0_=some cg_:=by
   simp[f2,Aa,Bz,Ad,An,ub]
  simp only[Ao,Az,wl,e8,List.set_cons_succ,List.set_cons_zero,De,Cf,L];refine⟨hm,rfl,?_⟩;refine Qy g2 gK! hk hs.nn (zk i hi) (by have:=hA.lt i hi;simp;omega) (a6i w hi) λM1 hr fr=>?_;have UA:M1 a5=some (.dct k5 e5):=by
   rw[fr a5 (λz=>by have:=hA.r5;rw[z,g4]at this;cases this) (λz=>by have:=hA.r5;rw[z,g5]at this;cases this)];exact h5
  have UB:M1 o=some vE!:=by
   rw[fr o (λz=>by have:=hA.ro;rw[z,g4]at this;cases this) (λz=>by have:=hA.ro;rw[z,g5]at this;cases this)];exact hA.ob
  obtain⟨q1,q2,q3⟩:=b2d (c:=gC!) (e5:=Lk k5 cg_ e5) hA w hi hl O hs zk g3 g4 g5 g1 hr fr;have hU:U++wd!::v=(U++[wd!])++v:=by simp
  have:=jL (b:=b) (tx:=tx) (h:=h) (n:=n) cs (k0+1) _ we! fd_ (U++[n2!]) v cg_ _ (some jQ!) (some gB_) (some cg_) R
   (a!) v0! q3 hi (by rw[iO,hU]) (.inr ⟨U,_,rfl,rfl,λz=>zk i hi wf!⟩) gK!
   (λx L k' cv z=>by
    have tx:(we!).txt x=if x=i then U++n2!::v else W.txt x:=rfl
    rw[tx]at z;by_cases y:x=i
    .subst y;rw[j!]at z;simp only[BJ,AH,AR,AE]at z;rcases z with z|z|z
     .exact hf x hi k' a! wf!
     .simp at z;omega
     .exact hf x hi k' a! (by rw[hl,BJ];exact AS _ z)
    .rw[AI y]at z;exact hf x L k' a! z)
   (λM' ρ B Y f'=>hR M' ρ (by
    rw[dL]at B;rw[show hb+(cs.length+1)=hb+1+cs.length by omega,EM];simpa[sgn]using B) (by
    rw[dL]at Y;rw[EM];simpa[sgn]using Y) (q2.trans f'))
  have hp:∀R',Dz sm! hB! (wl bx!) n0! M1 R'=R' (.nx n0!) (Cb M1 a5 (.dct (Bi k5 cg_ gB_) (Lk k5 cg_ e5))):=by
   intro R';simp[Dz,wl,Bu,Mx,Hi,Aa,fC,UB,oF5,Ur,UA,show Ha cg_=some _ from rfl,l5]
  simp only[hp];exact this
def b2f{h n:Int}{s:Str}(hO:aG!)(w:El W)(cn:fb_)(zl:Ha b=some kb)(hB:gS!)(hs:jR_)
  (hf:∀x∈W.its,∀k':Nat,D.tup v7_∉(aF_).map b!)
  (hR:∀M',Ep t M' o rl wj! a9_->El wj!->Fr M rl M' rl->R .non M'):
  Og t [aV_,gY!,i,b,dm!] M R:=by
 have h':=hO;show"!3";simp only[Uc,Ao,Bs,Uy,wT,Cf,wl,Ac,Al,Aa];simp[nO!];refine Qp hO cn ?_;by_cases c1:i∈W.its
 .simp only[c1,CF]at hR;obtain⟨U,v,e1,e2,e3⟩:=dC b ea_ bl_;have hl:gY_<=16:=by simpa[Str.length]using hs
  have hi:wB O_ [z!,bn_,I_,ea!,gZ!,ea!,none,none,none]=some (s.cps.toList.zipIdx.map eN):=by
   simp[wB,Aa,eN]
  have:=jL (t:=t) (o:=o) (rl:=rl) (b:=b) (tx:=dm!) (h:=h) (n:=n) s.cps.toList 0 M W hb U v b kb none none none gP_ a! hO w c1 e1 (by rw[<-e1];exact e3) zl (λx L k' _=>hf x L k')
   (λM' ρ B Y f'=>hR M' (by rw[<-e2]at B;exact B.mono a!) (by rw[<-e2]at Y;exact Y) f')
  simp only[c1,HQ,EA,BI,BW,Eu,Az,wl,Fn,Qu,Hi];simp only[Aa,List.getElem?_cons_zero,List.getElem?_cons_succ,Option.join_some,List.set_cons_succ,List.set_cons_zero];simp only[hi];exact this
 .simp only[c1,BW]at hR;have:=hR M n4! w .refl;simpa[c1,jO]using this
def Bj{N:Mh}(O:N b≠none)(hc:N c=none):b≠c:=λz=>O (by rw[z];exact hc)
def b8f(h:∀i,(i,x)∉rows):chl rows x=[]:=by
 cases e:chl rows x with
 |nil=>rfl
 |cons a l=>exact absurd (Eb.mp (by rw[e];simp:a∈chl rows x)) (h a)
def Ic.rne(h:dY!):r≠f/\r≠p:=by
 obtain⟨kf,ef,kp,ep,hf,hp,K⟩:=h.dc;refine⟨cN!,cN!⟩
 .have:=h.ob;rw[z,hf]at this;cases this
 .have:=h.ob;rw[z,hp]at this;cases this
def b4d{f1 p1 f2 p2:Addr}{k3:g!}{M2 M3 M5:Mh}{e1 e2 e3 e4:Nat}(hA:gM!)(w:El W)(hn:nE!)(ht:Oo n)(hp:Kh W pl)
  (hg:gW W.rows n pl b rows')(g1:kget k2 pl=some aV!)(g3:rl r=.rO pl)(g4:rl f=.rF pl)(g5:rl p=.rP pl)
  (R2:Ic t M2 r f p (hW n b (chl W.rows pl)))(K2:∀c,c≠f->c≠p->M2 c=Cb M a1 (.dct n4_ e1) c)
  (z1:M2 r1=none)(z2:M2 f1=none)(z3:M2 p1=none)(R3:Ic t M3 r1 f1 p1 [])(K3:∀c,c≠r1->c≠f1->c≠p1->M3 c=M2 c)
  (y1:Cb M3 a2 g0! r2=none)(y2:Cb M3 a2 g0! f2=none)(y3:Cb M3 a2 g0! p2=none)(R5:Ic t M5 r2 f2 p2 [])(K5:∀c,c≠r2->c≠f2->c≠p2->M5 c=Cb M3 a2 g0! c)
  (x1:Cb M5 a3 n6! q=none):
  ∃af,pY t wr_ o af a9! a9_ a1 a2 a3 a4 a5 a6 n4_ n5! n5_ (Bi k4 n bl!) k5 k6/\
   Fr M rl wr_ af:=by
 have a7:∀{c d:Addr},rl c≠rl d->c≠d:=λh z=>h g0_;have lv:∀c,rl c≠.oth->M c≠none:=hA.live;have A1:M a1≠none:=lv _ bO!;have A2:M a2≠none:=lv _ ay_;have A3:M a3≠none:=lv _ aW!;have A4:M a4≠none:=lv _ aW_;have AF:M f≠none:=lv _ d5!;have AP:M p≠none:=lv _ d5_;have s2:∀c,M c≠none->M2 c≠none:=λc hc=>by
  by_cases c1:c=f
  .rw[c1];exact R2.live.2.1
  .by_cases c2:c=p
   .rw[c2];exact R2.live.2.2
   .rw[K2 c c1 c2];by_cases c3:c=a1
    .rw[c3,mup_same];simp
    .rw[n7_];exact hc
 have iy:∀c,M c≠none->c≠r1/\c≠f1/\c≠p1:=λc hc=>⟨Bj n8! z1,Bj n8! z2,Bj n8! z3⟩;have s3:∀c,M c≠none->M3 c≠none:=λc hc=>by rw[n9!];exact s2 c hc
 have we:∀c,M3 c≠none->Cb M3 a2 g0! c≠none:=λc hc=>by
  by_cases c3:c=a2
  .rw[c3,mup_same];simp
  .rw[n7_];exact hc
 have gh:∀c,M3 c≠none->c≠r2/\c≠f2/\c≠p2:=λc hc=>⟨Bj n9_ y1,Bj n9_ y2,Bj n9_ y3⟩;have fw:∀c,M3 c≠none->M5 c≠none:=λc hc=>by rw[wt!];exact we c hc
 have NZ:∀c,M5 c≠none->Cb M5 a3 n6! c≠none:=λc hc=>by
  by_cases c3:c=a3
  .rw[c3,mup_same];simp
  .rw[n7_];exact hc
 have nq:∀c,M5 c≠none->c≠q:=λc hc=>Bj (NZ c hc) x1;have UC:a1≠f:=a7 (by rw[hA.r1,g4];simp);have UD:a1≠p:=a7 (by rw[hA.r1,g5];simp);have fin:∀c,M c≠none->c≠a1->c≠f->c≠p->c≠a2->c≠a3->c≠a4->Cb eb_ a4 ec! c=M c:=λc hc B Y h3 h4 h5 h6=>by
  rw[g1!,wt_,jU_,wu!,ob_,n9!,K2 c Y h3,cc!]
 have ud:∀c,M c≠none->c≠a2->c≠a3->c≠a4->Cb eb_ a4 ec! c=M2 c:=λc hc h4 h5 h6=>by
  rw[g1!,wt_,jU_,wu!,ob_,n9!]
 have N':∀c,M3 c≠none->c≠a2->c≠a3->c≠a4->Cb eb_ a4 ec! c=M3 c:=λc hc h4 h5 h6=>by
  rw[g1!,mup_ne (nq c (fw c hc)),jU_,wt!,ob_]
 have wf:∀c,M5 c≠none->c≠a3->c≠a4->Cb eb_ a4 ec! c=M5 c:=λc hc h5 h6=>by
  rw[g1!,wv!,jU_]
 generalize UE:Cb eb_ a4 ec!=M8 at fin ud N' wf;have OA:=R3.rne;have OB:=R5.rne;obtain⟨v1,v2,v3⟩:=R3.live;obtain⟨v4,v5,v6⟩:=R5.live
 let af:Addr->dB:=λc=>if c=r1 then .rO n else if c=f1 then .rF n else if c=p1 then .rP n else if c=r2 then .tO n else if c=f2 then .tF n else if c=p2 then .tP n else if c=q then .nm n else rl c
 have ah:∀c,M c≠none->af c=rl c:=λc hc=>by
  have B:=iy c hc;have Y:=gh c jU!;have h3:=nq c (fw c jU!);show wu_=_;rw[AI B.1,AI B.2.1,AI B.2.2,AI Y.1,AI Y.2.1,AI Y.2.2,AI h3]
 have q1:af r1=.rO n:=AQ rfl;have q2:af f1=.rF n:=by show(if f1=r1 then _ else _)=_;rw[AI (AK OA.1),j!]
 have q3:af p1=.rP n:=by show(if p1=r1 then _ else _)=_;rw[AI (AK OA.2),AI (AK R3.ne),j!]
 have w1:∀c,M3 c≠none->c≠r2/\c≠f2/\c≠p2:=gh;have q4:af r2=.tO n:=by show(if r2=r1 then _ else _)=_;rw[AI (AK (oc_).1),AI (AK (od!).1),AI (AK (od_).1),j!]
 have q5:af f2=.tF n:=by show(if f2=r1 then _ else _)=_;rw[AI (AK (oc_).2.1),AI (AK (od!).2.1),AI (AK (od_).2.1),AI (AK OB.1),j!]
 have q6:af p2=.tP n:=by show(if p2=r1 then _ else _)=_;rw[AI (AK (oc_).2.2),AI (AK (od!).2.2),AI (AK (od_).2.2),AI (AK OB.2),AI (AK R5.ne),j!]
 have q7:af q=.nm n:=by
  show(if q=r1 then _ else _)=_;rw[AI (AK (nq _ (fw _ v1))),AI (AK (nq _ (fw _ v2))),AI (AK (nq _ (fw _ v3))),AI (AK (nq _ v4)),AI (AK (nq _ v5)),AI (AK (nq _ v6)),j!]
 have na:∀c,M c≠none->wx_:=iy;have im:∀x,x∈(a9!).its↔x∈W.its\/x=n:=λx=>by simp[Kk]
 have jr:wo W.rows n=W.rows:=by
  show"!e";exact λz=>hn ((w.ri n).mp jy!)
 have nP:¬Kh W n:=λz=>z.elim hn λz=>z.elim ht.nn.2.1 ht.nn.2.2;have OC:∀x,Kh a9! x↔Kh W x\/x=n:=λx=>by unfold Kh;rw[im];constructor<;>(intro z;rcases z with(z|z)|z<;>simp[z])
 have up:∀{x:Nat},x<=hb->x<=hb+20:=λh=>by omega
 have up1:∀{l:g!} {d v:D},P!<=hb->(e4!).length<=hb+20:=λh=>BN dY_ a!;have c1:∀c,rl c≠.oth->rl c≠.par->rl c≠.rows->rl c≠.texts->rl c≠.nums->rl c≠.rF pl->rl c≠.rP pl->M8 c=M c:=λc h0 B Y h3 h4 h5 h6=>
  fin c (lv c h0) (λz=>B oe_) (λz=>h5 of!) (λz=>h6 of_) (λz=>Y (by rw[z,hA.r2])) (λz=>h3 (by rw[z,hA.r3])) (λz=>h4 (by rw[z,hA.r4]))
 refine⟨af,?_,λc hc hr=>⟨fin c hc (a7 (by rw[hr,hA.r1];simp)) (a7 (by rw[hr,g4];simp)) (a7 (by rw[hr,g5];simp)) (a7 (by rw[hr,hA.r2];simp)) (a7 (by rw[hr,hA.r3];simp)) (a7 (by rw[hr,hA.r4];simp)),by rw[ah c hc];exact hr⟩⟩;have e8:∀c,M8 c=Cb eb_ a4 ec! c:=λc=>by rw[UE]
 have X3:=x1;refine
  {ob:=(c1 o O! O! O! O! O! O! O!).trans hA.ob
   d1:=⟨e1,?d1⟩,d2:=⟨e2,?d2⟩,d3:=⟨e3,?d3⟩,d4:=⟨e4,?d4⟩,d5:=?d5,d6:=?d6
   ro:=(ah o (lv o O!)).trans hA.ro,r1:=(ah a1 A1).trans hA.r1,r2:=(ah a2 A2).trans hA.r2,r3:=(ah a3 A3).trans hA.r3,r4:=(ah a4 A4).trans hA.r4
   r5:=(ah a5 (lv _ aO!)).trans hA.r5,r6:=(ah a6 (lv _ az!)).trans hA.r6
   p0:=⟨by rw[Hb ht.nn.2.1];exact hA.p0.1,by rw[Hb ht.nn.2.2];exact hA.p0.2⟩
   pr:=?pr,row:=?row,rown:=?rown,txt:=?txt,txtn:=?txtn,num:=?num,wr:=?wr,hi:=?hi,hk:=?hk
   l1:=up1 hA.l1,l2:=up1 hA.l2,l3:=up1 hA.l3,l4:=up1 hA.l4,l5:=up hA.l5,l6:=up hA.l6,lr:=?lr,lt:=?lt,live:=?live}
 case d1=>rw[ud a1 A1 (a7 (by rw[hA.r1,hA.r2];simp)) (a7 (by rw[hA.r1,hA.r3];simp)) (a7 (by rw[hA.r1,hA.r4];simp)),K2 a1 UC UD,mup_same]
 case d2=>
  have h3:=s3 a2 A2;rw[e8,mup_ne (a7 (by rw[hA.r2,hA.r4];simp)),mup_ne (nq a2 (fw a2 h3)),mup_ne (a7 (by rw[hA.r2,hA.r3];simp)),K5 a2 (oh!).1 (oh!).2.1 (oh!).2.2,mup_same]
 case d3=>rw[e8,mup_ne (a7 (by rw[hA.r3,hA.r4];simp)),mup_ne (nq a3 (fw a3 (s3 a3 A3))),mup_same]
 case d4=>rw[e8,mup_same]
 case d5=>rw[c1 a5 aO! aO! aO! aO! aO! aO! aO!];exact hA.d5
 case d6=>rw[c1 a6 az! az! az! az! az! az! az!];exact hA.d6
 case pr=>
  intro i p' hm;rcases hg.mem.mp hm with z|z
  .cases z;rw[Gv]
  .rw[jr]at z;rw[Hb λy=>eI w hn p' wB_];exact hA.pr i p' z
 case row=>
  intro x L;rcases(OC x).mp L with L|rfl
  .obtain⟨r',f',p',u1,u2,u3,u4,u5⟩:=hA.row x L;have xn:n≠x:=λz=>nP jX!;have L1:=lv r' ai!;have L2:=lv f' aH_;have L3:=lv p' aI!;by_cases wg:pl=x
   .subst wg;rw[g1]at u1;cases u1;refine⟨r,f,p,by rw[Hb xn];exact g1,?_,(ah r L1).trans g3,(ah f AF).trans g4,(ah p AP).trans g5⟩;show Ic t M8 r f p (chl rows' pl);rw[wC!,jr];exact R2.keep (ud r L1 (a7 (by rw[g3,hA.r2];simp)) (a7 (by rw[g3,hA.r3];simp)) (a7 (by rw[g3,hA.r4];simp))) (ud f AF (a7 (by rw[g4,hA.r2];simp)) (a7 (by rw[g4,hA.r3];simp)) (a7 (by rw[g4,hA.r4];simp))) (ud p AP (a7 (by rw[g5,hA.r2];simp)) (a7 (by rw[g5,hA.r3];simp)) (a7 (by rw[g5,hA.r4];simp)))
   .refine⟨r',f',p',oi_,?_,(ah r' L1).trans u3,(ah f' L2).trans u4,(ah p' L3).trans u5⟩;show Ic t M8 r' f' p' (chl rows' x);rw[hg.chl_ne wg,jr];exact u2.keep wC_ (c1 f' aH_ aH_ aH_ aH_ aH_ (by rw[u4];simpa using AK wg) aH_) (c1 p' aI! aI! aI! aI! aI! aI! (by rw[u5];simpa using AK wg))
  .refine⟨r1,f1,p1,Gv _ _ _,?_,q1,q2,q3⟩;have np:pl≠x:=λz=>nP (z▸hp);show Ic t M8 r1 f1 p1 (chl rows' x);rw[hg.chl_ne np,jr,b8f λi z=>nP (w.rp _ _ z)];have e:∀c,M3 c≠none->(∀d,M d≠none->d≠c)->M8 c=M3 c:=λc B Y=>N' c B (AK (Y a2 A2)) (AK (Y a3 A3)) (AK (Y a4 A4));exact R3.keep (e r1 v1 λd hd=>(oj!).1) (e f1 v2 λd hd=>(oj!).2.1) (e p1 v3 λd hd=>(oj!).2.2)
 case rown=>
  intro x L;rw[OC,GO]at L;rw[Hb (AK L.2)];exact hA.rown x L.1
 case txt=>
  intro x L;rcases(cE!).mp L with L|rfl
  .obtain⟨r',f',p',u1,u2,u3,u4,u5⟩:=hA.txt x L;have xn:n≠x:=λz=>hn jX!;refine⟨r',f',p',oi_,?_,(ah r' (lv r' ai!)).trans u3,(ah f' (lv f' aH_)).trans u4,(ah p' (lv p' aI!)).trans u5⟩;have e:(a9!).txt x=W.txt x:=by show fh_=_;rw[AI (AK xn)]
   rw[e];exact u2.keep wC_ (c1 f' aH_ aH_ aH_ aH_ aH_ aH_ aH_) (c1 p' aI! aI! aI! aI! aI! aI! aI!)
  .refine⟨r2,f2,p2,Gv _ _ _,?_,q4,q5,q6⟩;have e:(g3_).txt x=[]:=by show g3!=_;rw[j!]
   rw[e];have o3:=w1 a3 (s3 a3 A3);have o4:=w1 a4 (s3 a4 A4);exact R5.keep (wf r2 v4 (AK o3.1) (AK o4.1)) (wf f2 v5 (AK o3.2.1) (AK o4.2.1)) (wf p2 v6 (AK o3.2.2) (AK o4.2.2))
 case txtn=>
  intro x L;rw[im,GO]at L;rw[Hb (AK L.2)];exact hA.txtn x L.1
 case num=>
  intro x L;rcases(cE!).mp L with L|rfl
  .obtain⟨q',u1,u2,u3⟩:=hA.num x L;have xn:n≠x:=λz=>hn jX!;refine⟨q',oi_,?_,(ah q' (lv q' ai!)).trans u3⟩;have e:(a9!).num x=W.num x:=by show fh_=_;rw[AI (AK xn)]
   rw[e,c1 q' ai! ai! ai! ai! ai! ai! ai!];exact u2
  .refine⟨q,Gv _ _ _,?_,q7⟩;have e:(g3_).num x=wq_:=by show g3!=_;rw[j!]
   rw[e,e8,wF_,mup_same]
 case wr=>
  intro x L q0 hq;rcases(cE!).mp L with L|rfl
  .have e:(a9!).txt x=W.txt x:=by show fh_=_;rw[ol!]
   rw[e]at hq;exact hA.wr x L q0 hq
  .have e:(g3_).txt x=[]:=by show g3!=_;rw[j!]
   rw[e]at hq;cases hq
 case hi=>
  intro x L q0 hq;rcases(cE!).mp L with L|rfl
  .have e:(a9!).txt x=W.txt x:=by show fh_=_;rw[ol!]
   rw[e]at hq;exact hA.hi x L q0 hq
  .have e:(g3_).txt x=[]:=by show g3!=_;rw[j!]
   rw[e]at hq;cases hq
 case hk=>
  intro s hs;obtain⟨x,B,Y⟩:=hA.hk s hs;refine⟨x,(cE!).mpr (.inl B),?_⟩;have e:(a9!).txt x=W.txt x:=by show fh_=_;rw[AI (λz:x=n=>hn (z▸B))]
  rw[e];exact Y
 case lr=>
  obtain⟨u,v,e,rfl,_⟩:=hg;rw[jr]at e;show(u++(n,pl)::v).length<=_;have:=hA.lr;rw[e]at this;simp at this ⊢;omega
 case lt=>
  intro x L;rcases(cE!).mp L with L|rfl
  .have e:(a9!).txt x=W.txt x:=by show fh_=_;rw[ol!]
   rw[e];exact up jG!
  .have e:(g3_).txt x=[]:=by show g3!=_;rw[j!]
   rw[e];simp
 case live=>
  intro c hc;have s8:∀c,M5 c≠none->M8 c≠none:=λc hc=>by
   rw[e8];by_cases h6:c=a4
   .rw[h6,mup_same];simp
   .rw[g1!,wv!];exact NZ c hc
  by_cases hM:M c=none
  .by_cases ue:c=r1
   .rw[ue];exact s8 _ (fw _ v1)
   .by_cases uf:c=f1
    .rw[uf];exact s8 _ (fw _ v2)
    .by_cases ky:c=p1
     .rw[ky];exact s8 _ (fw _ v3)
     .by_cases kz:c=r2
      .rw[kz];exact s8 _ v4
      .by_cases on:c=f2
       .rw[on];exact s8 _ v5
       .by_cases qh:c=p2
        .rw[qh];exact s8 _ v6
        .by_cases me:c=q
         .rw[me,e8,wF_,mup_same];simp
         .have:af c=rl c:=by show wu_=_;rw[AI ue,AI uf,AI ky,AI kz,AI on,AI qh,AI me]
          rw[this]at hc;exact absurd hM (lv c hc)
  .exact s8 _ (fw _ (s3 c hM))
end
section
variable{t:Ca}{M:Mh}{ρ:Ag}{R:Fl->Mh->Prop}
def tE{fo fi f:WE}{q:WS}(h:f ρ M λv M1=>fo ρ M1 λd M2=>fi ρ M2 λy M3=>Hi pR_ λM4=>q ρ M4 R):Ao (Dz fo fi f) q ρ M R:=by exact h
def yE{f:WE}{q:WS}(h:f ρ M λ_ M1=>q ρ M1 R):Ao (De f) q ρ M R:=h
def bC{o:Addr}{fs:aP_}{kvs:g!}{ep:Nat}{fo fi:d_}{Q:cP!}(h0:fo ρ=some ax_)(B:fi ρ=some y)(hM:M o=some g4_)(L:fs.lookup x=some y!)(hp:bQ!)(hk:ck_)(hl:dx!)
  (hQ:Q hG!):Bu C x ch! ρ M (λd M2=>wl fi ρ M2 λy M3=>Hi pR_ λM4=>Q M4):=by
 have e:Ur M y! y v=some hG!:=by simp[Ur,hp,hk,hl]
 simp only[Bu,wl,h0,Mx,hM,CF,L,Hi,B,e];exact hQ
def d2o{g:WF}{fo:WE}{f1 f2:d_}{K:v_}(h0:∀K,fo ρ M K=K d M)(ho:k7_)(B:fi!)(Y:fi_)(k:g [d,a,b] M K):Cf C m 3 g fo wH! ρ M K:=by unfold Cf Ac Al;rw[h0];simp only[wl,B,Y];exact ol_
nonrec def c4k(t:Ca):WS:=Ao sd!
 (Ao se!
 (Ao se_
 (Ao sf!
 sg!)))
end
section
variable{t:Ca}{M:Mh}{o:Addr}{rl:Addr->dB}{W:OW}{hb:Nat}{R:D->Mh->Prop}
def c6g(hO:aG!)(w:El W)(hn:nE!)(ht:Oo n)(kh:dn!)(zl:Ha b=some kb)(hB:gS!)(hg:gW W.rows n cI! b rows')
  (hR:∀M' af,Ep t M' o af a9! a9_->Fr M rl M' af->R .non M'):Rg t [aV_,n,a,b] M R:=by
 have h':=hO;obtain⟨a1,a2,a3,a4,a5,a6,k1,k2,k3,k4,k5,k6,hA⟩:=h';obtain⟨e1,B⟩:=hA.d1;obtain⟨e2,Y⟩:=hA.d2;obtain⟨e3,h3⟩:=hA.d3;obtain⟨e4,h4⟩:=hA.d4;obtain⟨kn,f7⟩:=ht.key;have a7:∀{c d:Addr},rl c≠rl d->c≠d:=λh z=>h g0_;have lv:∀c,rl c≠.oth->M c≠none:=hA.live;have L1:nJ_<big:=by have:=hA.l1;unfold big;omega
 have L2:k2.length<big:=by have:=hA.l2;unfold big;omega
 have L3:k3.length<big:=by have:=hA.l3;unfold big;omega
 have L4:k4.length<big:=by have:=hA.l4;unfold big;omega
 have hp:Kh W cI!:=by split;assumption;exact .inr gE!
 refine m_;have hm:Gi t.B4 "has" M ax_:=hA.noOb oM1;generalize hK:wH_=KK;have gr:∀ρ' M',R .non M'->KK co_ M':=λρ' M' z=>by rw[<-hK];exact z
 have key:∀pl,pl=cI!->c4k t do! M KK:=by
  intro pl UF;rw[<-UF]at hg hp;obtain⟨r,f,p,g1,g2,g3,g4,g5⟩:=hA.row pl hp;obtain⟨X4,UG⟩:=bZ w hp;refine tE ?_;have f4:Aa 4 do!=some pl:=rfl;have ug:Aa 1 do!=some n:=rfl;have f3:Aa 3 do!=some b:=rfl;have f0:Aa 0 do!=some ax_:=rfl;show wl O_ do! M _;simp only[wl,f4];refine bC f0 ug hA.ob oF1 B f7 L1 ?_;refine yE ?_;have n1:∀c,rl c≠.par->Cb M a1 om! c=M c:=λc hc=>mup_ne λz=>hc oe_;have uh:∀R',w2 Ec cv_ ak! do! om_ R'=R' aV! om_:=by
   intro R';simp[w2,wl,Bu,Mx,n1 o O!,n1 a2 ay_,hA.ob,oF2,Ec,Y,UG,g1,Hi,Aa]
  have ui:=g2.keep (M':=Cb M a1 om!) (n1 r di_) (n1 f d5!) (n1 p d5_);have yd:Gi t.B5 "put_behind" om_ aV!:=by simp only[Gi,ui.ob,rM.1,and_self]
  refine d2o uh yd ug f3 ?_;refine Qy ui f7 zl ht.nn.1 (λz=>eI w hn pl on_) (by have:=jI (W:=W) (x:=pl);have:=hA.lr;omega) (jJ w) λM2 R2 K2=>?_;have m2:∀c,rl c≠.par->rl c≠.rF pl->rl c≠.rP pl->M2 c=M c:=λc B Y h3=>(K2 c (λz=>Y of!) (λz=>h3 of_)).trans (n1 c B);have pz:M2 o=_:=(m2 o O! O! O!).trans hA.ob;have OD:M2 a2=_:=(m2 a2 ay_ ay_ ay_).trans Y;have OE:M2 a3=_:=(m2 a3 aW! aW! aW!).trans h3;have OF:M2 a4=_:=(m2 a4 aW_ aW_ aW_).trans h4;refine tE ?_;refine bJ λr1 f1 p1 M3 z1 z2 z3 _ _ R3 K3=>?_;have m3:∀c,M2 c≠none->M3 c=M2 c:=λc hc=>K3 c (Bj hc z1) (Bj hc z2) (Bj hc z3);have zm:=(m3 o (by rw[pz];simp)).trans pz;have UH:=(m3 a2 (by rw[OD];simp)).trans OD;have OG:=(m3 a3 (by rw[OE];simp)).trans OE;have OH:=(m3 a4 (by rw[OF];simp)).trans OF;have UI:o≠a2:=a7 (by rw[hA.ro,hA.r2];simp);have OI:o≠a3:=a7 (by rw[hA.ro,hA.r3];simp);have zn:a3≠a2:=a7 (by rw[hA.r3,hA.r2];simp);have UJ:a4≠a2:=a7 (by rw[hA.r4,hA.r2];simp);have OJ:a4≠a3:=a7 (by rw[hA.r4,hA.r3];simp);refine bC f0 ug zm oF2 UH f7 L2 ?_;refine tE ?_;refine bJ λr2 f2 p2 M5 y1 y2 y3 _ _ R5 K5=>?_;have m5:∀c,c≠a2->M3 c≠none->M5 c=M3 c:=λc h0 hc=>by
   have q:Cb M3 a2 (.dct n5! (Lk k2 n e2)) c≠none:=by rw[mup_ne h0];exact hc
   rw[K5 c (Bj q y1) (Bj q y2) (Bj q y3),mup_ne h0]
  have zo:=(m5 o UI (by rw[zm];simp)).trans zm;have UK:=(m5 a3 zn (by rw[OG];simp)).trans OG;have OK:=(m5 a4 UJ (by rw[OH];simp)).trans OH;refine bC f0 ug zo oF3 UK f7 L3 ?_;unfold Dz;show a6d ix_ (wl b0!) do! (Cb M5 a3 oo!) _;refine⟨W!,⟨W!,W!,W!⟩,λq x1=>?_⟩;have q0:o≠q:=Bj (N:=Cb M5 a3 oo!) (by rw[mup_ne OI,zo];simp) x1;have q4:a4≠q:=Bj (N:=Cb M5 a3 oo!) (by rw[mup_ne OJ,OK];simp) x1;obtain⟨af,F1,F2⟩:=b4d (e1:=Lk k1 n e1) (e2:=Lk k2 n e2) (e3:=Lk k3 n e3) (e4:=Lk k4 n e4) hA w hn ht hp hg g1 g3 g4 g5 R2 K2 z1 z2 z3 R3 K3 y1 y2 y3 R5 K5 x1;have:=hR _ af ⟨_,_,_,_,_,_,_,_,_,_,_,_,F1⟩ F2;exact bC (kvs:=k4) (ep:=e4) f0 ug ((mup_ne q0).trans ((mup_ne OI).trans zo)) oF4 ((mup_ne q4).trans ((mup_ne OJ).trans OK)) f7 L4 (gr _ _ this)
 show Ao sc_ (c4k t) wK! M KK;have hh:∀K:D->Mh->Prop,Ga t [aV_,a] M K->Cf t.B4 "has" 2 (Ga t) i! c5! wK! M K:=λK mf=>⟨hm,rfl,mf⟩;unfold Ao Az wIf wT;refine hh _ (a5e hO kh ?_);by_cases c:Kh W a
 .rw[BK c];exact key a (by rw[AQ c])
 .rw[AW c];exact key Di (by rw[AI c])
def iW(hO:aG!)(w:El W)(cn:fb_)(gf:nN_)(nu:Ha s=some ks)(hB:gS!)
  (hR:∀M',(d3_->∀rows',gW W.rows i x s rows'->Ep t M' o rl {W with rows:=rows'} a9_)->(¬d3_->Ep t M' o rl W a9_)->Fr M rl M' rl->R .non M'):
  Ly t [aV_,i,x,s] M R:=by
 have h':=hO;obtain⟨a1,a2,a3,a4,a5,a6,k1,k2,k3,k4,k5,k6,hA⟩:=h';obtain⟨e1,B⟩:=hA.d1;obtain⟨e2,Y⟩:=hA.d2;refine m_;show Ao op! _ op_ M _;simp only[Ao,Bs,Uy,wT,Cf,wl,Ac,Al,Aa,List.getElem?_cons_zero,List.getElem?_cons_succ,Option.join_some];refine⟨hA.noOb oM5,rfl,?_⟩;refine a2c hO w cn gf λb O=>?_;cases b with
 |false=>
  have hc:¬d3_:=λz=>by have:=O.mpr z;cases this
  have:=hR M (λz=>absurd z hc) (λ_=>hO.mono a!) .refl;simpa[jO]using this
 |true=>
  have hc:=O.mp rfl;obtain⟨hi,L,hw⟩:=hc;obtain⟨p0,db⟩:=a3p w hi;have OL:Kh W p0:=w.rp _ _ db;obtain⟨r0,f0,q0,u1,u2,u3,u4,u5⟩:=hA.row p0 OL;obtain⟨r,f,p,g1,g2,g3,g4,g5⟩:=hA.row x L;obtain⟨zg,UL⟩:=bZ w OL;obtain⟨uu,vv,c1,c2⟩:=a5s w.rnd db;have a7:∀{c d:Addr},rl c≠rl d->c≠d:=λh z=>h g0_;have lr:=hA.lr;have UM:∀R',w2 Ec cv_ ml! op_ M R'=R' (.fn r0) M:=by
   intro R';simp[w2,wl,Bu,Mx,hA.ob,oF1,oF2,Ec,B,Y,cn,hA.pr i p0 db,UL,u1,Hi,Aa]
  have OM:Gi t.B5 "take_out" M (.fn r0):=by simp only[Gi,u2.ob,rM.2.1,and_self]
  simp only[Bool.not_true,Bool.false_eq_true,if_false,Eu,De,Cf,UM];refine⟨OM,rfl,?_⟩;refine xR u2 c1 cn (by have:=jI (W:=W) (x:=p0);omega) (jJ w) λM1 R1 K1=>?_;rw[<-c2]at R1;have m1:∀c,rl c≠.rF p0->rl c≠.rP p0->M1 c=M c:=λc B Y=>K1 c (λz=>B (by rw[z,u4])) (λz=>Y (by rw[z,u5]));have vz:=(m1 o O! O!).trans hA.ob;have UN:=(m1 a1 bO! bO!).trans B;have UO:=(m1 a2 ay_ ay_).trans Y;have ui:Ic t M1 r f p (chl j1! x):=by
   by_cases e:p0=x
   .subst e;rw[u1]at g1;cases g1;obtain⟨z1,z2⟩:f=f0/\p=q0:=by
     have:=u2.ob;rw[g2.ob]at this;simp at this;exact this
    rw[z1,z2];exact R1
   .rw[sH λz=>e wN!];exact g2.keep (m1 r di_ di_) (m1 f (by rw[g4];simpa using Ne.symm e) d5!) (m1 p d5_ (by rw[g5];simpa using Ne.symm e))
  have uh:∀R',w2 Ec cv_ M! op_ M1 R'=R' aV! M1:=by
   intro R';simp[w2,wl,Bu,Mx,vz,oF2,Ec,UO,gf,g1,Hi,Aa]
  have wj:Gi t.B5 "put_behind" M1 aV!:=by simp only[Gi,ui.ob,rM.1,and_self]
  simp only[uh];refine⟨wj,rfl,?_⟩;have lw:(chl j1! x).length<=ax!:=by
   have a:=(wV (rows:=wo W.rows i) (x:=x)).length_le;have b:=(wO!).length_le;simp at a b;omega
  refine Qy ui cn nu (gR!).nn.1 (λz=>(Ta.mp on_).2 rfl) a! (λc hc=>jJ w c (Eb.mpr (Ta.mp fk!).1)) λM2 R2 K2=>?_;have m2:∀c,rl c≠.rF x->rl c≠.rP x->M2 c=M1 c:=λc B Y=>K2 c (λz=>B of!) (λz=>Y of_);have pz:=(m2 o O! O!).trans vz;have UP:=(m2 a1 bO! bO!).trans UN;have L1:nJ_<big:=by have:=hA.l1;unfold big;omega
  have fin:R .non (Cb M2 a1 or_):=by
   have n3:∀c,rl c≠.par->Cb M2 a1 or_ c=M2 c:=λc hc=>mup_ne λz=>hc oe_;have aw:∀c,rl c≠.par->rl c≠.rF x->rl c≠.rP x->rl c≠.rF p0->rl c≠.rP p0->Cb M2 a1 or_ c=M c:=λc B Y h3 h4 h5=>(n3 c B).trans ((m2 c Y h3).trans (m1 c h4 h5));refine hR _ (λ_ rows' hg=>⟨a1,a2,a3,a4,a5,a6,Bi k1 i x,k2,k3,k4,k5,k6,?_⟩) (λz=>absurd ⟨hi,L,hw⟩ z) λc hc hr=>⟨aw c d4! d4! d4! d4! d4!,hr⟩;have up:∀{x:Nat},x<=hb->x<=hb+20:=λh=>by omega
   have xi:i≠root/\i≠Di:=⟨(gR!).nn.2.1,(gR!).nn.2.2⟩;refine{hA with ob:=?_,d1:=jI!,d2:=?_,d3:=?_,d4:=?_,d5:=?_,d6:=?_,p0:=⟨by rw[Hb xi.1];exact hA.p0.1,by rw[Hb xi.2];exact hA.p0.2⟩,pr:=?_,row:=?_,txt:=?_,num:=?_,l1:=Nat.le_trans dY_ (by have:=hA.l1;omega),l2:=up hA.l2,l3:=up hA.l3,l4:=up hA.l4,l5:=up hA.l5,l6:=up hA.l6,lr:=?_,lt:=λy hy=>up (hA.lt y hy),live:=?_}
   .rw[aw o O! O! O! O! O!];exact hA.ob
   .rw[aw a2 ay_ ay_ ay_ ay_ ay_];exact hA.d2
   .rw[aw a3 aW! aW! aW! aW! aW!];exact hA.d3
   .rw[aw a4 aW_ aW_ aW_ aW_ aW_];exact hA.d4
   .rw[aw a5 aO! aO! aO! aO! aO!];exact hA.d5
   .rw[aw a6 az! az! az! az! az!];exact hA.d6
   .intro a b hm;rcases hg.mem.mp hm with z|z
    .cases z;rw[Gv]
    .obtain⟨z1,z2⟩:=Ta.mp z;rw[Hb (Ne.symm z2)];exact hA.pr a b z1
   .intro y hy;show∃r f p,kget k2 y=some aV!/\Ic t _ r f p (chl rows' y)/\_;by_cases e:x=y
    .subst e;refine v6!;rw[wC!];exact R2.keep (n3 r di_) (n3 f d5!) (n3 p d5_)
    .rw[hg.chl_ne e];by_cases e':p0=y
     .subst e';refine⟨r0,f0,q0,u1,?_,u3,u4,u5⟩;exact R1.keep ((n3 r0 ai!).trans (m2 r0 ai! ai!)) ((n3 f0 aH_).trans (m2 f0 (by rw[u4];simpa using Ne.symm e) aH_)) ((n3 q0 aI!).trans (m2 q0 aI! (by rw[u5];simpa using Ne.symm e)))
     .obtain⟨r',f',p',v1,v2,v3,v4,v5⟩:=hA.row y hy;refine⟨r',f',p',v1,?_,v3,v4,v5⟩;rw[sH λz=>e' wN!];exact v2.keep wS_ (aw f' cJ! (by rw[v4];simpa using Ne.symm e) cJ! (by rw[v4];simpa using Ne.symm e') cJ!) (aw p' cJ_ cJ_ (by rw[v5];simpa using Ne.symm e) cJ_ (by rw[v5];simpa using Ne.symm e'))
   .intro y hy;obtain⟨r',f',p',v1,v2,v3,v4,v5⟩:=hA.txt y hy;exact⟨r',f',p',v1,v2.keep wS_ (aw f' cJ! cJ! cJ! cJ! cJ!) (aw p' cJ_ cJ_ cJ_ cJ_ cJ_),v3,v4,v5⟩
   .intro y hy;obtain⟨q,v1,v2,v3⟩:=hA.num y hy;exact⟨q,v1,(aw q bC_ bC_ bC_ bC_ bC_).trans v2,v3⟩
   .obtain⟨u,v,e,rfl,_⟩:=hg;show(u++(i,x)::v).length<=_;have b:=(wO!).length_le;rw[e]at b;simp at b ⊢;omega
   .intro c hc;by_cases y0:c=a1
    .rw[y0,mup_same];simp
    .rw[mup_ne y0];by_cases y1:c=f
     .rw[y1];exact R2.live.2.1
     .by_cases y2:c=p
      .rw[y2];exact R2.live.2.2
      .rw[K2 c y1 y2];by_cases y3:c=f0
       .rw[y3];exact R1.live.2.1
       .by_cases y4:c=q0
        .rw[y4];exact R1.live.2.2
        .rw[K1 c y3 y4];exact hA.live c hc
  simpa[Dz,wl,Bu,Mx,Hi,Aa,pz,oF1,Ur,UP,cn,L1]using fin
end
end K26
namespace K26
open PySem L2 DL
nonrec def Ca.nd(t:Ca):Prop:=[t.A0,t.A5,t.A6,t.A7,t.A8,t.A9,t.B0,t.B1,t.B2].Nodup
nonrec def Vu(c:Nat):Bool:=decide (32<=c)&&decide (c<=126)&&!(c==37)
nonrec def zR(s:Str):Bool:=decide (ah_<=1000)&&s.cps.toList.all Vu
def c7r(a c:Nat):qE ⟨#[a]⟩ am!=decide (a<=c):=by
 unfold qE;simp only[List.cons_lt_cons_iff,List.not_lt_nil,and_false,DN];by_cases h:c<a
 .simp[h]
 .simp[h];omega
def b0y:(" ":Str)=⟨#[32]⟩:=by decide+kernel
def b0x:("~":Str)=⟨#[126]⟩:=by decide+kernel
def c8n(c:Nat):Mt [gC!]=some (.bl (Vu c)):=by
 push_cast[Mt,qT,c1d,b0y,b0x,c7r,Str.length,Vu]
 by_cases B:32<=c<;>by_cases Y:c<=126<;>simp[B,Y];rw[EJ];simp;omega
def nS(ρ:Ag)(ny:ρ=ch_):∀(cs:j_),cs.all Vu=true->
  Jy S! aL! il_ ρ (cs.map λc=>.str am!)=some j2!
 |[],_=>rfl
 |c::cs,h=>by
  rw[FT,BH]at h;have ih:=nS ρ ny cs h.2;subst ny;simp only[AH,Jy,ih];simp[Dl,f1,Ad,Aa,An,c8n,h.1]
def nX:∀(cs:j_),Wu wT_=some wU!
 |[]=>rfl
 |c::cs=>by simp only[AH,Wu,nX cs,GV]
def wI(a b:Str):Ir (.str a) (.str b)=fS!:=by unfold Ir;rfl
def wJ(a b:Int):Ir (.int a) (.int b)=fS!:=by unfold Ir;rfl
def a2h(s:Str):∀xs:List Str,wV!=xs.any (·==s)
 |[]=>rfl
 |x::xs=>by rw[AH,ES,ES,a2h s xs,wI]
def c2d(s:Str)(xs:k!):a5a false ba! (.tup j2_)=some (.bl (xs.any (·==s))):=by
 have h:(j2_).all Uh=true:=by simp[DQ,Uh]
 show(if Uh ba!&&(j2_).all Uh then some (D.bl wV!)else none)=_;rw[h,a2h];rfl
def gG:(Str.ofString "put"==Str.ofString "undo")=false:=by decide+kernel
def gH:(Str.ofString "put"==Str.ofString "redo")=false:=by decide+kernel
def Qn:(Str.ofString "move"==Str.ofString "put")=false:=by decide+kernel
def vM:(Str.ofString "move"==Str.ofString "undo")=false:=by decide+kernel
def vN:(Str.ofString "move"==Str.ofString "redo")=false:=by decide+kernel
def Qo:(Str.ofString "drop"==Str.ofString "put")=false:=by decide+kernel
def Ox:(Str.ofString "drop"==Str.ofString "move")=false:=by decide+kernel
def bU:(Str.ofString "drop"==Str.ofString "undo")=false:=by decide+kernel
def bV:(Str.ofString "drop"==Str.ofString "redo")=false:=by decide+kernel
def Tg:(Str.ofString "write"==Str.ofString "put")=false:=by decide+kernel
def Re:(Str.ofString "write"==Str.ofString "move")=false:=by decide+kernel
def Rf:(Str.ofString "write"==Str.ofString "drop")=false:=by decide+kernel
def vL:(Str.ofString "write"==Str.ofString "cut")=false:=by decide+kernel
def vK:(Str.ofString "write"==Str.ofString "set")=false:=by decide+kernel
def pS:(Str.ofString "write"==Str.ofString "undo")=false:=by decide+kernel
def pT:(Str.ofString "write"==Str.ofString "redo")=false:=by decide+kernel
def Zu:(Str.ofString "cut"==Str.ofString "put")=false:=by decide+kernel
def Wc:(Str.ofString "cut"==Str.ofString "move")=false:=by decide+kernel
def We:(Str.ofString "cut"==Str.ofString "drop")=false:=by decide+kernel
def Ti:(Str.ofString "cut"==Str.ofString "write")=false:=by decide+kernel
def a4x:(Str.ofString "cut"==Str.ofString "set")=false:=by decide+kernel
def a0p:(Str.ofString "cut"==Str.ofString "undo")=false:=by decide+kernel
def a0q:(Str.ofString "cut"==Str.ofString "redo")=false:=by decide+kernel
def Zs:(Str.ofString "set"==Str.ofString "put")=false:=by decide+kernel
def Wa:(Str.ofString "set"==Str.ofString "move")=false:=by decide+kernel
def Wb:(Str.ofString "set"==Str.ofString "drop")=false:=by decide+kernel
def Th:(Str.ofString "set"==Str.ofString "write")=false:=by decide+kernel
def Zt:(Str.ofString "set"==Str.ofString "cut")=false:=by decide+kernel
def a0l:(Str.ofString "set"==Str.ofString "undo")=false:=by decide+kernel
def a0m:(Str.ofString "set"==Str.ofString "redo")=false:=by decide+kernel
def gC:(Str.ofString "undo"==Str.ofString "put")=false:=by decide+kernel
def bP:(Str.ofString "undo"==Str.ofString "move")=false:=by decide+kernel
def bQ:(Str.ofString "undo"==Str.ofString "drop")=false:=by decide+kernel
def Yv:(Str.ofString "undo"==Str.ofString "write")=false:=by decide+kernel
def gD:(Str.ofString "undo"==Str.ofString "cut")=false:=by decide+kernel
def a0k:(Str.ofString "undo"==Str.ofString "set")=false:=by decide+kernel
def gE:(Str.ofString "redo"==Str.ofString "put")=false:=by decide+kernel
def bS:(Str.ofString "redo"==Str.ofString "move")=false:=by decide+kernel
def bT:(Str.ofString "redo"==Str.ofString "drop")=false:=by decide+kernel
def Yw:(Str.ofString "redo"==Str.ofString "write")=false:=by decide+kernel
def gF:(Str.ofString "redo"==Str.ofString "cut")=false:=by decide+kernel
def a0o:(Str.ofString "redo"==Str.ofString "set")=false:=by decide+kernel
def bR:(Str.ofString "redo"==Str.ofString "undo")=false:=by decide+kernel
def Nd(a b:Str):Cg (.str a) (.str b)=some (.bl fS!):=by simp[Cg,Co,Oa,wI]
def in2(k a b:Str):a5a false T_ ou_=some (.bl ov!):=by have:=c2d k ag!;simpa only[AH,FM,ES,List.any_nil,Bool.or_false]using this
def wH(a b:Int):Cg (.int a) (.int b)=some (.bl fS!):=by simp[Cg,Co,Oa,wJ]
abbrev scr(ns:D!):D:=.lst jq_
def xA{α:Type}{xs:K_}{i:Int}(h0:0<=i)(B:i<i_):∃x,Gf xs i=some x/\x∈xs:=by refine⟨xs[i.toNat]' a!,?_,CO _⟩;unfold Gf Ig;rw[AQ h0,AQ B];simp
def c3h(ns:D!)(k:Int):∃c,cF [do_,g8!]=some (.int c):=by
 cases ns with
 |nil=>exact⟨0,by push_cast[cF,uB,scr,a9r]⟩
 |cons n r=>
  have hp:(0:Int)<g8_+1:=by omega
  obtain⟨x,e,L⟩:=xA (xs:=w0!) (i:=k%(g8_+1)) (EI _ a!) (by simpa using DP k hp);obtain⟨c,_,rfl⟩:=AZ.mp L;refine⟨c,?_⟩;have e':Ar (.lst w0!) (.int (k%(g8_+1)))=some (.int c):=e;simp only[AH]at e';simp[cF,uB,scr,Er,Cv,sSeq,Lp,Fp,Aa,a9r,f2,f1,Ad,An,Dh,En,Hm,hp,e']
def Sz(ns:D!){k:Int}:∃m,Fe [do_,g8!]=some bP!/\0<=m/\m<4294967231:=by obtain⟨c,hc⟩:=c3h ns k;refine⟨_,by push_cast[Fe,b3x,hc,zY];rfl,EI _ c!,DP _ c!⟩
def Xd{n:Int}(h:xs≠[]):∃x,Hn [.lst xs,aN_]=some x/\x∈xs:=by
 have hl:0<i_:=List.length_pos_iff.mpr h;have hp:(0:Int)<jd!:=by omega
 obtain⟨x,e,L⟩:=xA (xs:=xs) (i:=n%jd!) (EI _ a!) (DP n hp);refine⟨x,?_,L⟩;have e':Ar I! (.int (n%jd!))=some x:=e;simp[Hn,a7a,Er,Cv,Aa,f2,f1,Ad,An,Dh,En,Hm,hp,e',hl]
def bO{bnd:ae_}{q:aI_}(P:Nat->Ag->Prop):∀(ds:b_) (i:Nat) (ρ:Ag),P i ρ->
  (∀(j:Nat) (d:D) (ρ:Ag),ds[j]?=some d->P (i+j) ρ->∃ai bh,bnd d ρ=some ai/\q ai=some (.nx bh)/\P (i+j+1) bh)->
  ∃ρ',mJ bnd q ds ρ=some co_/\P (i+f_) ρ'
 |[],i,ρ,h,_=>⟨ρ,rfl,h⟩
 |d::ds,i,ρ,h,hs=>by
  obtain⟨ai,bh,e1,e2,Y⟩:=hs 0 d ρ rfl h;obtain⟨ρ',e3,h3⟩:=bO P ds a2! bh Y λj d ρ hd hp=>by
   have:=hs (j+1) d ρ (by simpa using hd) (by rw[show i+(j+1)=i+1+j by omega];exact hp);rw[show i+(j+1)+1=i+1+j+1 by omega]at this;exact this
  refine⟨ρ',?_,by rw[AJ,show i+(ds.length+1)=i+1+ds.length by omega];exact h3⟩;simp[mJ,e1,e2,e3]
def Sh{bnd:ae_}{ft:ag_}{fe:d_}{ρ:Ag}(R:D->Prop):∀(ds:b_),(∀d∈ds,∃ai b,bnd d ρ=some ai/\ft ai=some b/\(b=true->∃y,fe ai=some y/\R y))->
  ∃ys,Jy bnd ft fe ρ ds=some ys/\M_<=f_/\∀y∈ys,R y
 |[],_=>⟨[],rfl,AY _,λy hy=>by cases hy⟩
 |d::ds,h=>by
  obtain⟨ai,b,e1,e2,hy⟩:=h d AL;obtain⟨ys,e3,hl,hr⟩:=Sh R ds λx L=>h x bQ_
  cases b with
  |false=>exact⟨ys,by simp[Jy,e1,e2,e3],ee!,hr⟩
  |true=>
   obtain⟨y,e4,r4⟩:=hy rfl;refine⟨y::ys,by simp[Jy,e1,e2,e3,e4],ee!,lh_⟩;rcases AE.mp hz with rfl|hz
   .exact r4
   .exact hr z hz
def gQ{bnd:ae_}{fe:d_}{ρ:Ag}:∀{ds ys:b_},Jy bnd aL! fe ρ ds=some ys->M_=f_
 |[],ys,e=>by cases e;rfl
 |d::ds,ys,e=>by
  unfold Jy at e;obtain⟨ai,e1,e⟩:=AB.mp e;simp only[FE,CF]at e;obtain⟨y,e3,e⟩:=AB.mp e;obtain⟨zs,e4,rfl⟩:=AO.mp e;simp[gQ e4]
nonrec def NameG(x:D):Prop:=∃a b,x=.tup vr_/\0<=a/\a<16/\1<=b/\b<=2000
nonrec def Fz(x:D):Prop:=x=.str "root"\/x=.str "bin"\/NameG x
nonrec def Ye(x:D):Prop:=x=.non\/NameG x
nonrec def b8r(x:D):Prop:=∃a b c,x=.tup vs!/\0<=a/\a<16/\1<=b/\b<=2000/\0<=c/\c<=15
nonrec def Uk(x:D):Prop:=x=.non\/b8r x
inductive DG:D->Prop
 |put {a b:D}:Fz a->Ye b->DG ee_
 |move {a b c:D}:Fz a->Fz b->Ye c->DG g9_
 |drop {a:D}:Fz a->DG ha!
 |write {a b:D} {s:Str}:Fz a->Uk b->zR s=true->1<=ah_->ah_<=16->DG fl!
 |cut {a:D} {x y z m:Int}:Fz a->b8r d6_->1<=m->z+m<=16->DG ef!
 |set {a:D} {p n:Int}:Fz a->0<=p->p<=3->n.natAbs<10 ^ 60->DG (.tup [j6!,a,.int p,aN_])
 |undo {a:D}:NameG a->DG (.tup [ow_,a])
 |redo {a:D}:NameG a->DG (.tup [.str "redo",a])
nonrec def a5x(o:D):Prop:=∃h n tm d,o=.tup [aX_,aN_,.int tm,d]/\0<=h/\h<16/\1<=n/\n<=2000/\DG d
def a1s(h:DG d):∃k r,d=.tup cK!/\(k="write"->∃a b s,r=[a,b,dm!]/\ah_<=16):=by
 cases h with
 |write _ _ _ _ h5=>exact⟨_,_,rfl,λ_=>⟨_,_,_,rfl,h5⟩⟩
 |_=>exact⟨_,_,rfl,λz=>absurd z o!⟩
def b6r{ops:b_}(h:j7!)(hl:j8!):∃its,Wo [.lst ops]=some oy!/\3<=e2_/\e2_<=200/\∀x∈its,Fz x:=by
 obtain⟨ys,e,l,hr⟩:=Sh (ρ:=ch_) (bnd:=Dl 0) (ft:=fT mU_) (fe:=Bz gv!)
  (w4_) ops (by
   intro o ho;obtain⟨h',n,tm,d,rfl,b1,b2,b3,b4,hd⟩:=h o ho;obtain⟨k,r,rfl,_⟩:=a1s hd;refine⟨_,_,rfl,by push_cast[Nd];rfl,λ_=>⟨_,by push_cast,w5!⟩⟩)
 have hc:Jq 1 [] k3! S! (fT mU_) (Bz gv!) [az_]=some aU!:=by
  show w6_;rw[dq!,e];rfl
 have a1:Bb (.lst [.str "root"]) aU!=some w7!:=by
  show(if 1+M_<=big then some (D.lst ([.str "root"]++ys))else none)=_;rw[dq!];rfl
 have a2:Bb w7! (.lst ka!)=some (.lst (.str "root"::(ys++ka!))):=by
  show(if M_+1+2<=big then some (D.lst (.str "root"::ys++ka!))else none)=_;rw[dq!];rfl
 refine⟨.str "root"::(ys++ka!),by simp[Wo,zD,Er,Cv,f2,fC,hc,a1,a2],J!,ee!,aU_⟩;simp at L;rcases L with rfl|L|rfl|rfl
 .exact cX!
 .exact .inr (.inr (hr x L))
 .exact .inr aB_
 .exact .inr (.inr ⟨9,9,rfl,W!,W!,W!,W!⟩)
def b3b{ops:b_}(h:j7!)(hl:j8!):∃ss,Wm [.lst ops]=some (.lst ss)/\ss≠[]/\∀x∈ss,Uk x:=by
 let P:Nat->Ag->Prop:=λi ρ=>∃cz x y,ρ=[az_,oA_,x,y]/\cz≠[]/\oB!<=2+16*i/\∀z∈cz,Uk z
 obtain⟨ρ',e,cz,x,y,rfl,f0,_,hf⟩:=bO (bnd:=Dk 2) (q:=Lp tv_ tw_ Fp)
  P ops 0 [az_,some (.lst [.non,.tup [.int 9,.int 9,.int 3]]),none,none] ⟨_,_,_,rfl,by simp,by simp,by
   intro z hz;simp at hz;rcases hz with rfl|rfl
   .exact cX!
   .exact .inr ⟨9,9,3,rfl,W!,W!,W!,W!,W!,W!⟩⟩ (by
  rintro j d ρ hd ⟨cz,x,y,rfl,f0,fl,hf⟩;have hj:j<j7_:=(BA.mp hd).1;obtain⟨h',n,tm,d',rfl,b1,b2,b3,b4,UQ⟩:=h d (GS hd);obtain⟨k,r,rfl,hw⟩:=a1s UQ;by_cases hk:k="write"
  .subst hk;obtain⟨a,b,s,rfl,UR⟩:=hw rfl;have uc:ah_<=big:=by unfold big;omega
   let P2:Nat->Ag->Prop:=λi ρ=>∃cz y,ρ=w9!/\cz≠[]/\oB!<=2+16*(0+j)+i/\∀z∈cz,Uk z
   obtain⟨bh,e2,ON,y2,rfl,US,UT,yc⟩:=bO (bnd:=Dk 3) (q:=Zg 1 tw!) P2 (Hh ah_) 0
    (w9!) ⟨cz,y,rfl,f0,fl,hf⟩ (by
     rintro i d ρ hd ⟨cz,y,rfl,f0,fl,hf⟩;unfold Hh at hd;rw[BS]at hd;obtain⟨i',dw,rfl⟩:=AO.mp hd;obtain⟨am,he⟩:=BA.mp dw;rw[HE]at he;subst he;rw[EY]at am;have O:oB!<big:=by unfold big;omega
     refine⟨_,_,rfl,by push_cast[Zg,O];rfl,cz++[.tup [.int h',aN_,.int (i:Nat)]],_,rfl,J!,ee!,lh_⟩;rcases AR.mp hz with hz|hz
     .exact hf z hz
     .simp at hz;subst hz;exact .inr ⟨_,_,_,rfl,b1,b2,b3,b4,r!,r!⟩)
   have hr:-1000<=ke!/\ke!<=100000:=by omega
   refine⟨_,[az_,some (.lst ON),w8_,y2],rfl,by push_cast[Nd,oQ,Kd,uc,hr,e2],ON,_,_,rfl,US,?_,yc⟩;simp[Hh]at UT;omega
  .refine⟨_,[az_,oA_,some (.tup [.int h',aN_,.int tm,.tup cK!]),y],rfl,by push_cast[Nd,hk],cz,_,_,rfl,f0,r!,hf⟩)
 refine⟨cz,?_,f0,hf⟩;simp[Wm,zC,Ss,Er,sSeq,Ad,An,fC,oQ,Iz,Aa,Cv,e]
abbrev letters:Str:=" abcXYZ.,;!019~[]\\\"'|{}<>@#$&*()-+/=_^:?`"
def gA:oC!=41:=by decide+kernel
def a4w:letters.cps.toList.all Vu=true:=by decide+kernel
def b1o:(bb!).cps=#[]:=by decide+kernel
def eY:(bb!).length=0:=by decide+kernel
nonrec def eA(c:Nat):D:=.str am!
def xS:∀(xs:b_),(∀x∈xs,∃c,x=eA c/\Vu c=true)->∃cs:List Nat,xs=cs.map eA/\cs.all Vu=true
 |[],_=>xc!
 |x::xs,h=>by
  obtain⟨c,rfl,hc⟩:=h x AL;obtain⟨cs,rfl,pi⟩:=xS xs λy hy=>h y d0_
  exact⟨c::cs,rfl,by simp only[FT,hc,pi,FD]⟩
def dG:∀(cs:j_),Yh kf!=some fm_
 |[]=>rfl
 |c::cs=>by simp only[AH,eA,Yh];rw[show List.map eA cs=List.map eA cs from rfl,dG cs];rfl
def a1e:∀(cs:j_) (acc:Array Nat),(fm_).foldl oC_ acc=acc++cs.toArray
 |[],acc=>by simp
 |c::cs,acc=>by
  rw[AH,IK,a1e cs,b1o];simp
def b6p(cs:j_):Txt.join bb! fm_=oD!:=by
 unfold Txt.join Builtin.Str.glued;cases cs with
 |nil=>rfl
 |cons c cs=>
  simp only[AH,List.drop_succ_cons,List.drop_zero,List.headD_cons];rw[a1e];simp
def iM:∀(cs:j_),((fm_).map he!).sum=cg!
 |[]=>rfl
 |c::cs=>by
  have ih:=iM cs;simp only[AH,List.sum_cons,AJ];rw[ih];show 1+cg!=_;omega
def b9n{n most:Int}(B:1<=most)(X5:most<=16):∃s,cE [aN_,.int most]=some ba!/\zR s=true/\1<=ah_/\ah_<=16:=by
 have OM:0<=n%most:=EI _ a!;have wj:n%most<most:=DP _ a!;obtain⟨N,hN⟩:∃N:Nat,(N:Int)=1+n%most:=⟨(1+n%most).toNat,r!⟩;have UU:1<=N:=by omega
 have X6:N<=16:=by omega
 obtain⟨ys,e,l,hr⟩:=Sh (ρ:=xe!) (bnd:=Dl 0) (ft:=kf_) (fe:=f2 Ar w_ tA!)
  (λy=>∃c,y=eA c/\Vu c=true) fn! (by
   intro d hd;unfold Hh at hd;obtain⟨i,hi,rfl⟩:=AZ.mp hd;have dw:=GM.mp hi;have z1:(0:Int)<1+3*(i:Int):=by omega
   have z2:1+3*(i:Int)<1073741824:=by omega
   have ak:oC!<=big:=by rw[gA];decide
   have hsz:((xf!:Nat):Int)=41:=by
    have:xf!=41:=by rw[<-gA];simp[Str.length]
    omega
   obtain⟨c,ec,hc⟩:=xA (xs:=letters.cps.toList) (i:=n / (1+3*(i:Int))%41) (EI _ c!) (by rw[hsz];exact DP _ c!);have m9:Ar oD_ (.int (n / (1+3*(i:Int))%41))=some (eA c):=by
    show(if oC!<=big then(Gf letters.cps.toList _).map _ else none)=_;rw[AQ ak,ec];rfl
   refine⟨_,true,rfl,rfl,λ_=>⟨eA c,?_,c,rfl,DQ.mp a4w c hc⟩⟩;simp[Dl,f2,Aa,fC,Bb,Ih,Hm,zY,Ey,En,z1,z2,m9])
 have l2:=gQ e;obtain⟨cs,rfl,pi⟩:=xS ys hr;have bq:cg!=N:=by simpa[Hh]using l2
 have UV:-1000<=(N:Int)/\(N:Int)<=100000:=by omega
 have hc:Jq 1 [0,2] (Kd mW_) S! aL! tA_ xg!=some (.lst kf!):=by
  have hi:Kd mW_ xg!=some fn!:=by
   simp[Kd,f2,fC,Aa,En,Hm,show 0<most by omega,Bb,<-hN,UV]
  unfold Jq;rw[hi];show(if(fn!).length<=big then Option.map D.lst (Jy _ _ _ xe! fn!)else none)=_;rw[AQ (by simp[Hh,big];omega),e];rfl
 have hj:Ug gu! (.lst kf!)=some (.str oD!):=by
  unfold Ug;simp only[dG,FE,iM,AU,eY,Nat.mul_zero,Nat.add_zero,b6p];rw[dq!]
 refine⟨oD!,?_,?_,?_,?_⟩
 .simp[cE,a6x,Er,sSeq,Fc,fC,Cv,sA,hc,hj]
 .simp only[zR,Str.length,AN,pi,Bool.and_true,BM];omega
 .simp only[Str.length,AN];omega
 .simp only[Str.length,AN];omega
nonrec def dq0:Ag->Option Fl:=tC_
nonrec def dq1:Ag->Option Fl:=tD!
nonrec def dq2:Ag->Option Fl:=tE!
nonrec def dq3:Ag->Option Fl:=tF!
nonrec def dq4:Ag->Option Fl:=tG_
nonrec def dq5:Ag->Option Fl:=tH!
nonrec def dq6:Ag->Option Fl:=tI_
nonrec def dq7:Ag->Option Fl:=tJ_
nonrec def dq8:Ag->Option Fl:=tK_
nonrec def dq9:Ag->Option Fl:=tM!
nonrec def d3j:Ag->Option Fl:=tN_
nonrec def d3i:Ag->Option Fl:=tO_
nonrec def c8p:Ag->Option Fl:=tR_
nonrec def c2r:Ag->Option Fl:=tT_
nonrec def dq14:Ag->Option Fl:=tU!
nonrec def dq15:Ag->Option Fl:=tU_
nonrec def dqB:Ag->Option Fl:=(sSeq dq7 (sSeq dq8 (sSeq dq9 (sSeq d3j xi!))))
def b0g:iS=(sSeq dq0 (sSeq dq1 (sSeq dq2 (sSeq dq3 (sSeq dq4 (sSeq dq5 (sSeq dq6 dqB))))))):=rfl
def Cm{q1 q2:aI_}{ρ ρ':Ag}(h:q1 ρ=some co_):sSeq q1 q2 ρ=q2 ρ':=by simp[sSeq,h]
def Zc{q1 q2:aI_}{ρ:Ag}(h:q1 ρ=some aY!):sSeq q1 q2 ρ=some aY!:=by simp[sSeq,h]
def Pi{f:d_}{ρ:Ag}{i:Nat}(h:cG_):Fc i f ρ=some (.nx bO_):=by simp[Fc,h]
abbrev kinds:List D:=[j5!,j5!,j5!,ov_,ov_,j5_,j5_,.str "cut",j6!,ow_,.str "redo",.str "drop"]
nonrec def KindOk(k:Str):Prop:=k="put"\/k="move"\/k="write"\/k="cut"\/k="set"\/k="undo"\/k="redo"\/k="drop"
def a1z{α:Type}{xs:K_}{lo hi:a7!}{x:α}(h:x∈Ge xs lo hi):x∈xs:=List.mem_of_mem_drop (List.mem_of_mem_take h)
nonrec def lS:D->D
 |.str _=>.non
 |d=>d
def a0u(h:Fz d\/d=.non):(Ky "str" d=some true/\lS d=.non)\/(Ky "str" d=some false/\lS d=d/\Ye d):=by
 rcases h with(rfl|rfl|⟨a,b,rfl,h⟩)|rfl
 .exact .inl bJ_
 .exact .inl bJ_
 .exact .inr ⟨rfl,rfl,.inr ⟨a,b,rfl,h⟩⟩
 .exact .inr ⟨rfl,rfl,cX!⟩
def c8x(ns:D!){base most:Int}{ops:b_}(h:j7!)(hl:j8!):∃m0 its item iz k,0<=m0/\its≠[]/\(∀x∈its,Fz x)/\Fz item/\Ye iz/\KindOk k/\
  iS xk_=dqB oG_:=by
 obtain⟨m0,e0,p0,_⟩:=Sz ns (k:=base);obtain⟨m1,e1,_,_⟩:=Sz ns (k:=base+1);obtain⟨m2,e2,_,_⟩:=Sz ns (k:=base+2);obtain⟨its,ei,i3,X7,oo⟩:=b6r h hl;have wk:its≠[]:=by intro z;subst z;simp at i3
 have rl:xm_≠[]:=by
  intro z;have z2:=congrArg List.length z;simp[Ge,HT.sIx]at z2;omega
 have bq:(xn!).length+(xn_).length<=big:=by
  simp[Ge,HT.sIx,big];omega
 obtain⟨item,ep,mp⟩:=Xd (n:=m1) rl;have oq:Fz item:=by
  rcases AR.mp mp with z|z
  .exact oo _ (a1z z)
  .exact oo _ (a1z z)
 have a1:Bb (.lst xn!) (.lst xn_)=some (.lst xm_):=by
  show hd!;rw[AQ bq]
 have a2:Bb oy! (.lst iY!)=some (.lst (its++iY!)):=by
  show(if e2_+2<=big then _ else none)=_;rw[dq!]
 obtain⟨oth,eo,mo⟩:=Xd (n:=m2) (xs:=its++iY!) c_;have uj:Fz oth\/oth=.non:=by
  rcases AR.mp mo with z|z
  .exact .inl (oo _ z)
  .simp at z;exact .inr z
 have mv:Ye (lS oth):=by
  rcases a0u uj with⟨_,z⟩|⟨_,z,y⟩
  .rw[z];exact .inl rfl
  .rw[z];exact y
 obtain⟨kd,ek,mk⟩:=xA (xs:=kinds) (i:=m0%12) (EI _ c!) (by show _<(12:Int);exact DP _ c!);obtain⟨k,rfl,hk⟩:∃k,kd=.str k/\KindOk k:=by
  simp[kinds]at mk;unfold KindOk;rcases mk with rfl|rfl|rfl|rfl|rfl|rfl|rfl|rfl<;>exact⟨_,rfl,J!⟩
 have UW:Ar (.lst kinds) (.int (m0%12))=some T_:=ek;refine⟨m0,its,item,lS oth,k,p0,wk,oo,oq,mv,hk,?_⟩;rw[b0g];rw[Cm (ρ':=[X!,ao_,az_,bp!,bR!,none,none,none,none,none,none,none]) (Pi (by simp[f1,Ad,Aa,An,e0]))];rw[Cm (ρ':=[X!,ao_,az_,bp!,bR!,cj!,none,none,none,none,none,none]) (Pi (by simp[f1,Ad,Aa,An,ei]))];rw[Cm (ρ':=[X!,ao_,az_,bp!,bR!,cj!,cK_,none,none,none,none,none]) (Pi (by
  have b1:Bb kg_ aS_=some (.int (base+1)):=rfl;simp[f1,Ad,Aa,An,f2,Je,Cy,Bv,Bw,fC,a1,b1,e1,ep]))]
 rw[Cm (ρ':=[X!,ao_,az_,bp!,bR!,cj!,cK_,some oth,none,none,none,none]) (Pi (by
  have b1:Bb kg_ bv_=some (.int (base+2)):=rfl;simp[f1,Ad,Aa,An,f2,fC,a2,b1,e2,eo]))]
 rw[Cm (ρ':=[X!,ao_,az_,bp!,bR!,cj!,cK_,oI!,none,none,none,none]) (by
  rcases a0u uj with⟨z1,z2⟩|⟨z1,z2,_⟩<;>simp[dq4,Lp,fT,Gp,Aa,z1,z2,Fp,Fc,fC])]
 rw[Cm (ρ':=[X!,ao_,az_,bp!,bR!,cj!,cK_,oI!,fo!,none,none,none]) (Pi gK!)];rw[Cm (ρ':=[X!,ao_,az_,bp!,bR!,cj!,cK_,oI!,fo!,some T_,none,none]) (Pi (by simp[f2,Aa,fC,En,Hm,UW]))]
section
variable{ρ:Ag}
def b1j{c:ag_}{a b:aI_}(h:c ρ=some true):Lp c a b ρ=a ρ:=by unfold Lp;rw[h];rfl
def Of{c:ag_}{a:aI_}(h:c ρ=some false):Lp c a Fp ρ=some an_:=by unfold Lp;rw[h];rfl
def cJ{i:Nat}{b:Bool}(h:Aa i ρ=some T_)(e:(k==s)=b):fT (f2 Cg (Aa i) (fC ba!)) ρ=some b:=by unfold fT f2 fC;rw[h];show(Cg T_ ba!).bind _=_;rw[Nd,e];rfl
def Gq{f:d_}{fs:an!}(h:cG_)(g:hf!):Ad f fs ρ=some d4_:=by unfold Ad;rw[h,g];rfl
def Zh{fs:an!}{ds:b_}(h:hf!)(hl:xr!):Cv (Bz fs) ρ=some (.rt di!):=by unfold Cv Bz;rw[h];show Option.map _ xr_=_;rw[xs!];rfl
def nK{g:W_}{fs:an!}(h:hf!)(e:g ds=some d):f1 g fs ρ=some d:=by unfold f1;rw[h];exact e
def Mm{g:aX!}{f1 f3:d_}(h:f1 ρ=some x)(k:f3 ρ=some y)(e:g x y=some d):f2 g f1 f3 ρ=some d:=by unfold f2;rw[h,k];exact e
def zW{ns:D!}{base j m:Int}(h:Aa 0 ρ=some (scr ns))(g:Aa 1 ρ=some kg_)(e:Fe [do_,.int (base+j)]=some bP!):f1 Fe (Ad n! (Ad (f2 Bb s_ (fC dk!)) An)) ρ=some bP!:=
 nK (Gq h (Gq (Mm g rfl rfl) rfl)) e
def b4p{m:Int}{f h:d_}(a:f ρ=some I!)(b:h ρ=some bP!)(e:Hn [.lst xs,d8!]=some p):f1 Hn (Ad f (Ad h An)) ρ=some p:=
 nK (Gq a (Gq b rfl)) e
end
def a4o{i j:Int}(h:0<j):En bd_ dk!=some (.int (i%j)):=by show(if decide (0<j)=true then _ else _)=_;rw[AQ (BK h)]
def c2w(ns:D!){base most:Int}{ops:b_}(h:j7!)(hl:j8!)(wj:1<=most)(UX:most<=16):∃d,Tl xx_=some d/\DG d:=by
 obtain⟨m0,its,item,iz,k,p0,wk,oo,oq,uj,hk,hA⟩:=c8x ns (base:=base) (most:=most) h hl;have fin:∀d,dqB oG_=some aY!->Tl xx_=some d:=λd e=>by
  unfold Tl Er;rw[gK_];show(match iS xk_ with|some (.rt d)=>some d|some (.nx _)=>some .non|none=>none)=_;rw[hA,e]
 clear hA;obtain⟨m1,e1,_,_⟩:=Sz ns (k:=base+1);obtain⟨m3,e3,_,_⟩:=Sz ns (k:=base+3);obtain⟨m4,e4,_,_⟩:=Sz ns (k:=base+4);obtain⟨m5,e5,_,_⟩:=Sz ns (k:=base+5);obtain⟨p1,UY,UZ⟩:=Xd (n:=m1) wk;obtain⟨p3,U',VA⟩:=Xd (n:=m3) wk;obtain⟨ss,es,zp,VB⟩:=b3b h hl;obtain⟨sg,eg,mg⟩:=Xd (n:=m4) zp;have OO:=VB _ mg;obtain⟨tx,et,VC,VD,VE⟩:=b9n (n:=m5) wj UX;have uk:∀{k:Str},d3j oG_=some (.nx oK!):=
  Pi (nK (Gq (nK oK_ es) (Gq (zW rfl rfl e4) rfl)) eg)
 have OP:∀{k:Str},xA!=true->c2r oK!=some (.rt xA_):=λ{k} e=>
  (b1j (by unfold fT;rw[xB!,e];rfl)).trans (Zh rfl rfl)
 have OQ:DG xA_:=.set oq a! a! a!;obtain⟨nm,nn,VF⟩:∃nm,NameG nm/\∀{k:Str},("put"==k)=false->sSeq dq14 dq15 [some (scr ns),some (.int base),some (.lst ops),some (.int most),some (.int m0),some (.lst its),some item,some iz,some (.lst kinds),some (.str k),some sg,none]=some (.rt (.tup [.str k,nm])):=by
  obtain⟨ys,e,l,hr⟩:=Sh (ρ:=ch_) (bnd:=Dl 0) (ft:=kf_) (fe:=Bz gv!)
   (w4_) ops (by
    intro o ho;obtain⟨h',n,tm,d,rfl,b1,b2,b3,b4,_⟩:=h o ho;exact⟨_,true,rfl,rfl,λ_=>⟨_,rfl,w5!⟩⟩)
  have a1:Bb aU! (.lst oL!)=some (.lst (ys++oL!)):=by
   show(if M_+1<=big then _ else none)=_;rw[dq!]
  obtain⟨nm,en,mn⟩:=Xd (n:=m1) (xs:=ys++oL!) c_;refine⟨nm,?_,λ{k} _=>(Cm (Pi (Mm ?_ rfl a1))).trans (Zh (Gq rfl (Gq (b4p rfl xF! en) rfl)) rfl)⟩
  .rcases AR.mp mn with z|z
   .exact hr _ z
   .simp at z;subst z;exact⟨_,_,rfl,W!,W!,r!,r!⟩
  .show w6_;rw[dq!,e];rfl
 have wm:∀{k:Str},("put"==k)=false->(k=="write")=false->(k=="cut")=false->xA!=false->(xi!) oK!=some (.rt (.tup [.str k,nm])):=λ{k} e0 w c s=>
  (Cm (Of (cJ rfl w))).trans ((Cm (Of (by unfold Gb;rw[cJ rfl c];rfl))).trans ((Cm (Of (by unfold fT;rw[xB!,s];rfl))).trans (VF e0)))
 unfold KindOk at hk;rcases hk with rfl|rfl|rfl|rfl|rfl|rfl|rfl|rfl
 .exact⟨_,fin _ (Zc ((km_).trans (Zh (Gq rfl (Gq (b4p rfl xF! UY) rfl)) rfl))),.put (oo _ UZ) uj⟩
 .exact⟨_,fin _ ((Cm (Of (cJ rfl Qn))).trans (Zc ((km_).trans (Zh (Gq rfl (Gq rfl (Gq (b4p rfl (zW rfl rfl e3) U') rfl))) rfl)))),.move oq (oo _ VA) uj⟩
 all_goals first|(refine⟨_,fin _ ((Cm (Of (cJ rfl Qo))).trans ((Cm (Of (cJ rfl Ox))).trans (Zc ((km_).trans (Zh rfl rfl))))),.drop oq⟩;done)|skip
 .exact⟨_,fin _ ((Cm (Of (cJ rfl Tg))).trans ((Cm (Of (cJ rfl Re))).trans ((Cm (Of (cJ rfl Rf))).trans ((hh!).trans
   (Zc ((km_).trans (Zh (Gq rfl (Gq rfl (Gq rfl (Gq (nK (Gq (zW rfl rfl e5) rfl) et) rfl)))) rfl))))))),.write oq OO VC VD VE⟩
 .have go:dqB [X!,ao_,az_,bp!,bR!,cj!,cK_,kh!,fo!,some dM!,none,none]=sSeq c8p xh_ [X!,ao_,az_,bp!,bR!,cj!,cK_,kh!,fo!,some dM!,some sg,none]:=(Cm (Of (cJ rfl Zu))).trans ((Cm (Of (cJ rfl Wc))).trans ((Cm (Of (cJ rfl We))).trans ((hh!).trans (Cm (Of (cJ rfl Ti))))));rcases OO with rfl|⟨a,b,c,rfl,B,Y,h3,h4,c0,VG⟩
  .exact⟨_,fin _ (go.trans ((Cm (Of xS!)).trans (Zc (OP rfl)))),OQ⟩
  .have hc:0<16 - c:=by omega
   have q1:0<=m0 / 12%(16 - c):=EI _ a!;have q2:m0 / 12%(16 - c)<16 - c:=DP _ hc;exact⟨_,fin _ (go.trans (Zc ((b1j xS!).trans (Zh (Gq rfl (Gq rfl (Gq rfl (Gq (Mm rfl (Mm rfl rfl (a4o hc)) rfl) rfl)))) rfl)))),.cut oq ⟨a,b,c,rfl,B,Y,h3,h4,c0,VG⟩ a! a!⟩
 .exact⟨_,fin _ ((Cm (Of (cJ rfl Zs))).trans ((Cm (Of (cJ rfl Wa))).trans ((Cm (Of (cJ rfl Wb))).trans ((hh!).trans ((Cm (Of (cJ rfl Th))).trans ((Cm (Of (by unfold Gb;rw[cJ rfl Zt];rfl))).trans (Zc (OP o!)))))))),OQ⟩
 .exact⟨_,fin _ ((Cm (Of (cJ rfl gC))).trans ((Cm (Of (cJ rfl bP))).trans ((Cm (Of (cJ rfl bQ))).trans ((hh!).trans (wm gG Yv gD o!))))),.undo nn⟩
 .exact⟨_,fin _ ((Cm (Of (cJ rfl gE))).trans ((Cm (Of (cJ rfl bS))).trans ((Cm (Of (cJ rfl bT))).trans ((hh!).trans (wm gH Yw gF o!))))),.redo nn⟩
def Kx(h:Fz d):Ii d=true:=by rcases h with rfl|rfl|⟨a,b,rfl,_⟩<;>simp[Ii,Kc]
def qN(h:Ye d):Ii d=true:=by rcases h with rfl|⟨a,b,rfl,_⟩<;>simp[Ii,Kc]
def mB(h:NameG d):Ii d=true:=by obtain⟨a,b,rfl,_⟩:=h;simp[Ii,Kc]
def a3e(h:Uk d):Ii d=true:=by rcases h with rfl|⟨a,b,c,rfl,_⟩<;>simp[Ii,Kc]
def a5n(h:DG d):Ii d=true:=by
 cases h with
 |put B Y=>simp[Ii,Kc,Kx B,qN Y]
 |move B Y h3=>simp[Ii,Kc,Kx B,Kx Y,qN h3]
 |drop B=>simp[Ii,Kc,Kx B]
 |write B Y=>simp[Ii,Kc,Kx B,a3e Y]
 |cut B=>simp[Ii,Kc,Kx B]
 |set B=>simp[Ii,Kc,Kx B]
 |undo B=>simp[Ii,Kc,mB B]
 |redo B=>simp[Ii,Kc,mB B]
abbrev a6e:Ag->Option Fl:=(sSeq tW_
 (sSeq tX!
 (sSeq tX_
 (sSeq tY!
 (sSeq tZ!
 t0_)))))
end K26
namespace K26
open PySem L2 DL
open Classical
inductive oI(W:OW)(n:D):D->OW->Prop
 |put {a b:D} {rows':g!}:Fz a->Ye b->gW W.rows n cI! b rows'->oI W n ee_ a9!
 |mvY {a b c:D} {rows':g!}:Fz a->Fz b->Ye c->xW!->gW W.rows a b c rows'->oI W n g9_ {W with rows:=rows'}
 |mvN {a b c:D}:Fz a->Fz b->Ye c->¬xW!->oI W n g9_ W
 |drY {a:D} {rows':g!}:Fz a->xW_->gW W.rows a Di .non rows'->oI W n ha! {W with rows:=rows'}
 |drN {a:D}:Fz a->¬xW_->oI W n ha! W
 |wrt {a b:D} {s:Str} {h m:Int}:Fz a->Uk b->ah_<=16->n=.tup cj_->oI W n fl! (if a∈W.its then setT W a xX! else W)
 |cut {a:D} {x y z m:Int}:Fz a->0<=z->1<=m->z+m<=16->oI W n (.tup [.str "cut",a,.tup [.int x,.int y,.int z],.int m]) (if a∈W.its then setT W a (cutT ((List.range m.toNat).map λk=>.tup gS_) ap!)else W)
 |set {a:D} {p v:Int}:Fz a->0<=p->p<=3->oI W n ko! (if a∈W.its then sY W a ko_ else W)
def Ex(h:Fz x):∃k,Ha x=some k:=by
 rcases h with rfl|rfl|⟨a,b,rfl,_⟩
 .exact J_
 .exact J_
 .exact J_
def kM(h:Ye x):∃k,Ha x=some k:=by
 rcases h with rfl|⟨a,b,rfl,_⟩
 .exact J_
 .exact J_
def a9v(h:Uk x):∃k,Ha x=some k:=by
 rcases h with rfl|⟨a,b,c,rfl,_⟩
 .exact J_
 .exact J_
structure pX(W:OW)(pre:b_):Prop where
 inv:El W
 its:∀x∈W.its,x∈pre
 sgs:∀x∈W.its,∀q∈W.txt x,∃h n k,q.1=.tup xX_/\D.tup T!∈pre
 chr:∀x∈W.its,∀q∈W.txt x,∃c:Nat,q.2.1=.str am!
section
variable{t:Ca}{M:Mh}{o:Addr}{rl:Addr->dB}{W W':OW}{hb:Nat}{R:D->Mh->Prop}{pre:List D}
def aV{h n:Int}{s:Str}{q:e9!}(hq:q∈s.cps.toList.zipIdx.map d9_):∃c k:Nat,q=(.tup oR_,.str am!,true):=by obtain⟨⟨c,k⟩,_,rfl⟩:=AZ.mp hq;exact⟨c,k,rfl⟩
def a6r(h n:Int):∀(cs:j_) (k0:Nat),(((xY!).map b!)).Nodup/\∀k:Nat,k<k0->D.tup oR_∉(xY!).map b!
 |[],k0=>by simp
 |c::cs,k0=>by
  obtain⟨B,Y⟩:=a6r h n cs (k0+1);rw[EM];simp only[AH];refine⟨AX.mpr ⟨Y k0 a!,B⟩,λk hk z=>?_⟩;rcases AE.mp z with z|z
  .simp[sgn]at z;omega
  .exact Y k a! z
def sS{h m:Int}(hs:oI W hj_ d W')(w:ds_)(hn:xZ_):pX W' x0_:=by
 have keep:∀{V:OW},V.its=W.its->V.txt=W.txt->El V->pX V x0_:=λ{V} e1 e2 wi=>by
  refine⟨wi,aU_,kp!,kp!⟩
  .rw[e1]at L;exact BG _ (w.its x L)
  .rw[e1]at L;rw[e2]at hq;obtain⟨a,b,c,e,hm⟩:=w.sgs x L q hq;exact⟨a,b,c,e,BG _ hm⟩
  .rw[e1]at L;rw[e2]at hq;exact w.chr x L q hq
 cases hs with
 |put y1 y2 hg=>
  rename_i a b rows';have ni:D.tup cj_∉W.its:=λz=>hn (w.its _ z);have hp:Kh W cI!:=by split;assumption;exact .inr gE!
  have im:∀x,x∈(x2!).its↔x∈W.its\/x=.tup cj_:=λx=>by simp[Kk]
  have tx:∀x,(x2!).txt x=if x=.tup cj_ then[]else W.txt x:=λx=>rfl
  refine⟨hg.winv_put w.inv ni bz_ hp,aU_,kp!,kp!⟩
  .rcases(cE!).mp L with z|rfl
   .exact BG _ (w.its x z)
   .simp
  .rw[tx]at hq;by_cases e:x=.tup cj_
   .rw[AQ e]at hq;cases hq
   .rw[AI e]at hq;obtain⟨a,b,c,e',hm⟩:=w.sgs x x3! q hq;exact⟨a,b,c,e',BG _ hm⟩
  .rw[tx]at hq;by_cases e:x=.tup cj_
   .rw[AQ e]at hq;cases hq
   .rw[AI e]at hq;exact w.chr x x3! q hq
 |mvY _ _ _ hc hg=>exact keep rfl rfl x3_
 |mvN _ _ _ hc=>exact keep rfl rfl w.inv
 |drY _ hc hg=>exact keep rfl rfl x3_
 |drN _ hc=>exact keep rfl rfl w.inv
 |wrt y1 y2 y3 e=>
  rename_i a b s h' m';cases e;by_cases c:a∈W.its
  .rw[AQ c];obtain⟨U,v,e1,e2,e3⟩:=dC b hi_ ap!;have mem:∀q,q∈wrT b hi_ ap!↔q∈W.txt a\/q∈s.cps.toList.zipIdx.map kn_:=λq=>by
    rw[e2,e1];simp only[AR];constructor<;>(intro z;rcases z with(z|z)|z<;>simp[z])
   have fresh:∀x∈W.its,∀q∈W.txt x,∀k:Int,q.1≠.tup [aX_,d8!,g8!]:=λx L q hq k z=>by
    show"!`";rw[e']at z;cases z;exact hn hm
   have tx:∀x,(x4!).txt x=if x=a then wrT b hi_ ap! else W.txt x:=λx=>rfl
   have all:∀(P:D×D×Bool->Prop),(∀x∈W.its,∀q∈W.txt x,P q)->(∀q∈s.cps.toList.zipIdx.map kn_,P q)->∀x∈W.its,∀q∈(x4!).txt x,P q:=λP B Y x L q hq=>by
    rw[tx]at hq;by_cases e:x=a
    .rw[AQ e]at hq;rcases(mem q).mp hq with z|z
     .exact B a c q z
     .exact Y q z
    .rw[AI e]at hq;exact B x L q hq
   refine⟨dJ w.inv c ?_ dj! nR!,λx L=>BG _ (w.its x L),all _ (λx L q hq=>?_) dj!,all _ w.chr dj!⟩
   .rw[e2];have nd:=w.inv.snd a c;rw[e1]at nd;obtain⟨n1,_⟩:=a6r h m s.cps.toList 0;have dj:∀q∈W.txt a,∀q'∈s.cps.toList.zipIdx.map kn_,q.1≠q'.1:=λq hq q' a9=>by
     obtain⟨c',k',rfl⟩:=aV a9;exact fresh a c q hq _
    simp only[BJ]at nd ⊢;rw[BP]at nd;rw[BP,BP];refine⟨⟨nd.1,n1,jA!⟩,nd.2.1,jA!⟩
    .obtain⟨q,hq,rfl⟩:=AZ.mp L;obtain⟨q',a9,rfl⟩:=AZ.mp hy;exact dj q (by rw[e1];exact BG _ hq) q' a9
    .rcases AR.mp L with L|L
     .exact nd.2.2 x L y hy
     .obtain⟨q',a9,rfl⟩:=AZ.mp L;obtain⟨q,hq,rfl⟩:=AZ.mp hy;exact AK (dj q (by rw[e1];exact AS _ hq) q' a9)
   .rcases(mem q).mp hq with z|z
    .exact w.inv.sg a c q z
    .obtain⟨c',k',rfl⟩:=aV z;exact wb!
   .rcases(mem q).mp hq with z|z
    .exact(w.inv.su a c y hy q z q' a9 e).symm
    .obtain⟨c',k',rfl⟩:=aV z;exact absurd e.symm (fresh y hy q' a9 _)
   .show"!`";exact oV!
   .obtain⟨c',k',rfl⟩:=aV hq;exact⟨_,_,_,rfl,J!⟩
   .obtain⟨c',k',rfl⟩:=aV hq;exact J_
  .show"#&"
 |cut y1 y2 y3 y4=>
  rename_i a x y z m';by_cases c:a∈W.its
  .rw[AQ c];have tx:∀v,(setT W a (cutT x8_ ap!)).txt v=if v=a then cutT x8_ ap! else W.txt v:=λx=>rfl
   refine⟨sE w.inv c _,λv hv=>BG _ (w.its v hv),x9_,x9_⟩
   .rw[tx]at hq;split at hq
    .show"!:";obtain⟨a',b',c',e',hm⟩:=w.sgs a c q0 h0;exact oV!
    .obtain⟨a',b',c',e',hm⟩:=w.sgs v hv q hq;exact oV!
   .rw[tx]at hq;split at hq
    .show"!:";exact w.chr a c q0 h0
    .exact w.chr v hv q hq
  .show"#&"
 |set y1 y2 y3=>
  rename_i a p v;by_cases c:a∈W.its
  .rw[AQ c];exact keep rfl rfl (a9x w.inv (by rw[EF];exact w.inv.nl a c))
  .show"#&"
end
def b6j:(Str.ofString "put"==Str.ofString "put")=true:=by decide+kernel
def vO:(Str.ofString "move"==Str.ofString "move")=true:=by decide+kernel
def vP:(Str.ofString "drop"==Str.ofString "drop")=true:=by decide+kernel
def a0r:(Str.ofString "write"==Str.ofString "write")=true:=by decide+kernel
def b6k:(Str.ofString "cut"==Str.ofString "cut")=true:=by decide+kernel
def b6i:(Str.ofString "set"==Str.ofString "set")=true:=by decide+kernel
section
variable{t:Ca}{M:Mh}{o:Addr}{rl:Addr->dB}{W W':OW}{hb:Nat}{R:D->Mh->Prop}{pre:List D}
def ifT{ft:ag_}{q1 q2:WS}{ρ:Ag}{R:q_}(h:ya!)(k:q1 ρ M R):Bs (Gc ft) q1 q2 ρ M R:=by simp only[Bs,Gc,h];exact k
def Qh{ft:ag_}{q1 q2:WS}{ρ:Ag}{R:q_}(h:ya_)(k:hk!):Bs (Gc ft) q1 q2 ρ M R:=by simp only[Bs,Gc,h];exact k
def Bq:(fT (f2 Cg bx_ (fC oW!))) [z!,dn_,some eh_]=some kq!:=by
 have e:Ar eh_ G!=some T_:=by
  show oW_;show"!r"
 simp[fT,f2,Aa,fC,e,Nd]
def ix1:Ar oX! aS_=some a:=by show Gf (D.str k::a::r) 1=_;unfold Gf Ig;rw[Y_,ei!];simp
def ix2:Ar oX_ bv_=some b:=by show Gf (D.str k::a::b::r) 2=_;unfold Gf Ig;rw[Y_,ei!];simp
def ix3:Ar oY! aC_=some c:=by show Gf (D.str k::a::b::c::r) 3=_;unfold Gf Ig;rw[Y_,ei!];simp
def ax1:f2 Ar w_ t_ [z!,dn_,some oX!]=some a:=ix1
def ax2:f2 Ar w_ V! [z!,dn_,some oX_]=some b:=ix2
def ax3:f2 Ar w_ av! [z!,dn_,some oY!]=some c:=ix3
def av0:Aa 0 yd_=some ax_:=rfl
def av1:Aa 1 yd_=some n:=rfl
def Nu{f:WE}{ρ:Ag}{R:q_}(k:f ρ M λ_ M1=>R an_ M1):De f ρ M R:=k
def mE{g:WF}{fo f1 f2 f3:d_}{ρ:Ag}(h0:fo ρ=some d)(B:fi!)(Y:fi_)(h3:kq_)(ho:k7_)(k:g [d,a,b,c] M R):Cf C m 4 g ch! (Ac jY_ ye!) ρ M R:=by simp only[Cf,wl,Ac,Al,h0,B,Y,h3];exact ol_
def d2n{g:WF}{fo f1 f2 f3 f4:d_}{ρ:Ag}(h0:fo ρ=some d)(B:fi!)(Y:fi_)(h3:kq_)(h4:f4 ρ=some e)(ho:k7_)(k:g [d,a,b,c,e] M R):Cf C m 5 g ch! ye_ ρ M R:=by simp only[Cf,wl,Ac,Al,h0,B,Y,h3,h4];exact ol_
def c0u{h m:Int}(hO:aG!)(w:ds_)(hn:xZ_)(hs:oI W hj_ d W')(hB:gS!)
  (hR:∀M' af,Ep t M' o af W' a9_->Fr M rl M' af->R .non M'):Zx t [aV_,.tup cj_,d] M R:=by
 have zq:=hO;obtain⟨a1,a2,a3,a4,a5,a6,k1,k2,k3,k4,k5,k6,hA⟩:=zq;have fresh:∀x∈W.its,∀k':Nat,D.tup [aX_,d8!,.int (k':Nat)]∉(aF_).map b!:=λx L k' z=>by
  obtain⟨q,hq,e⟩:=AZ.mp z;show"!`";rw[e']at e;cases e;exact hn hm
 refine m_;show a3t t [z!,some hj_,some d] M _;cases hs with
 |put ha O hg=>
  show"!1";obtain⟨kb,k8⟩:=kM O;refine ifT (Bq.trans (congrArg some b6j)) ?_;exact Nu (mE av0 av1 ax1 ax2 (hA.noOb oM4) (c6g hO w.inv (λz=>hn (w.its _ z)) bz_ bm k8 hB hg hR))
 |mvY ha O a8 hc hg=>
  show"!M";exact Nu (mE av0 ax1 ax2 ax3 kr_ (iW hO w.inv bm k8 zr hB λM' f1 _ fr=>hR M' rl (f1 hc _ hg) fr))
 |mvN ha O a8 hc=>
  show"!M";exact Nu (mE av0 ax1 ax2 ax3 kr_ (iW hO w.inv bm k8 zr hB λM' _ f1 fr=>hR M' rl (f1 hc) fr))
 |drY ha hc hg=>
  show"#$";exact Nu (mE av0 ax1 rfl rfl kr_ (iW hO w.inv bm (kx:=oY_) rfl (ks:=none) rfl hB λM' f1 _ fr=>hR M' rl (f1 hc _ hg) fr))
 |drN ha hc=>
  show"#$";exact Nu (mE av0 ax1 rfl rfl kr_ (iW hO w.inv bm (kx:=oY_) rfl (ks:=none) rfl hB λM' _ f1 fr=>hR M' rl (f1 hc) fr))
 |wrt ha O c9 e=>
  cases e;show"!1";obtain⟨kb,k8⟩:=a9v O;refine Qh (Bq.trans (congrArg some Tg)) ?_;refine Qh (Bq.trans (congrArg some Re)) ?_;refine Qh (Bq.trans (congrArg some Rf)) ?_;refine ifT (Bq.trans (congrArg some a0r)) ?_;exact Nu (d2n av0 av1 ax1 ax2 ax3 (hA.noOb oM7) (b2f hO w.inv bm k8 hB c9 fresh λM' f1 _ fr=>hR M' rl f1 fr))
 |cut ha b5 B Y=>
  show"!1";refine Qh (Bq.trans (congrArg some Zu)) ?_;refine Qh (Bq.trans (congrArg some Wc)) ?_;refine Qh (Bq.trans (congrArg some We)) ?_;refine Qh (Bq.trans (congrArg some Ti)) ?_;refine ifT (Bq.trans (congrArg some b6k)) ?_;exact Nu (mE av0 ax1 ax2 ax3 (hA.noOb oM8) (c9e hO w.inv bm hB b5 B Y λM' f1 fr=>hR M' rl f1 fr))
 |set ha B Y=>
  show"!1";refine Qh (Bq.trans (congrArg some Zs)) ?_;refine Qh (Bq.trans (congrArg some Wa)) ?_;refine Qh (Bq.trans (congrArg some Wb)) ?_;refine Qh (Bq.trans (congrArg some Th)) ?_;refine Qh (Bq.trans (congrArg some Zt)) ?_;refine ifT (Bq.trans (congrArg some b6i)) ?_;exact Nu (mE av0 ax1 ax2 ax3 (hA.noOb oM9) (oM hO w.inv bm B Y λM' f1 fr=>hR M' rl (f1.mono a!) fr))
def c0v{k:Str}(hk:yj!)(hR:R .non M):Zx t [aV_,n,.tup ks!] M R:=by
 refine m_;show a3t t [z!,dn_,some (.tup ks!)] M _;rcases hk with rfl|rfl
 .refine Qh (Bq.trans (congrArg some gC)) ?_;refine Qh (Bq.trans (congrArg some bP)) ?_;refine Qh (Bq.trans (congrArg some bQ)) ?_;refine Qh (Bq.trans (congrArg some Yv)) ?_;refine Qh (Bq.trans (congrArg some gD)) ?_;refine Qh (Bq.trans (congrArg some a0k)) ?_;exact hR
 .refine Qh (Bq.trans (congrArg some gE)) ?_;refine Qh (Bq.trans (congrArg some bS)) ?_;refine Qh (Bq.trans (congrArg some bT)) ?_;refine Qh (Bq.trans (congrArg some Yw)) ?_;refine Qh (Bq.trans (congrArg some gF)) ?_;refine Qh (Bq.trans (congrArg some a0o)) ?_;exact hR
def Fx{bnd:ae_}{ck:cP!}{ft:WT}{fe:WE}{ρ:Ag}(b:D->Bool)(y:D->D)(il:ck M):∀(ds:b_) (R:pl!),
  (∀d∈ds,∃ai,bnd d ρ=some ai/\(∀K:Bool->Mh->Prop,K (b d) M->ft ai M K)/\(b d=true->∀K:D->Mh->Prop,K (y d) M->fe ai M K))->R ((ds.filter b).map y) M->nT bnd ck ft fe ρ ds M R
 |[],R,_,hR=>⟨il,hR⟩
 |d::ds,R,h,hR=>by
  obtain⟨ai,e1,e2,e3⟩:=h d AL;refine⟨il,?_⟩;rw[e1];show ft ai M _;refine e2 _ ?_;cases O:b d with
  |true=>
   rw[j!];refine e3 O _ (Fx b y il ds _ yn! ?_);rw[CM O]at hR;exact hR
  |false=>
   rw[Z!];refine Fx b y il ds _ yn! ?_;rw[CN (by simp[O])]at hR;exact hR
nonrec def yB(W:OW)(x:D):List dZ_:=(aF_).filter (·.2.2)
def yA(hO:aG!)(w:El W)(L:cb_)(hB:hb<4000)(hR:R (.lst o2_) M):Hd t fa_ M R:=by
 obtain⟨a1,a2,a3,a4,a5,a6,k1,k2,k3,k4,k5,k6,hA⟩:=hO;obtain⟨e3,h3⟩:=hA.d3;obtain⟨e6,h6⟩:=hA.d6;obtain⟨k,hk⟩:=(w.nm x L).key;obtain⟨r,f,p,g1,g2,g3,g4,g5⟩:=hA.txt x L;have lt:=hA.lt x L;refine m_;have uh:∀R',w2 Ec eH_ u! kt! M R'=R' aV! M:=by
  intro R';simp[w2,wl,Bu,Mx,hA.ob,oF3,Ec,h3,hk,g1,Hi,Aa]
 show Cn (Dx 1 [0] _ _ _ _) kt! M _;simp only[Cn,Dx,Et,Cf,uh,Al];refine⟨by simp only[Gi,g2.ob,rM.2.2.1,and_self],rfl,?_⟩;refine rJ g2 bJ! (a6i w L) ?_;refine dt_;refine Fx (λd=>!(kget k6 d).isSome) id trivial _ _ bR_ ?_
 .show"!H";obtain⟨kq,ul⟩:=(vG!).key;refine⟨[some q.1,z!],rfl,hk_,yo!⟩;simpa[wT,w2,wl,Bu,Mx,Aa,Hi,hA.ob,oF6,Pz,h6,ul]using hK
 .have e:((nC_).filter λd=>!(kget k6 d).isSome).map id=(dt!).map b!:=by
   rw[List.map_id];unfold yB;rw[GG];congr 1;apply EZ;intro q hq;simp only[Function.comp];rw[hA.hi x L q hq];simp
  rw[e];exact hR
def a3c(hO:aG!)(w:El W)(L:cb_)(hB:hb<4000)(hj:yp_)(hR:R v M):Jk t fa_ M R:=by
 have zq:=hO;obtain⟨a1,a2,a3,a4,a5,a6,k1,k2,k3,k4,k5,k6,hA⟩:=zq;obtain⟨e5,h5⟩:=hA.d5;have lt:=hA.lt x L;refine m_;show Cn (jP _ (Dx 1 [0] st! _ _ _)) kt! M _;simp only[Cn,jP,Dx,Et];have hm:∀(K:v_),K (.lst o2_) M->Cf t.B4 "signs_of" 2 (Hd t) i! b1_ kt! M K:=λK hK=>⟨hA.noOb d6m,rfl,yA hO w L hB hK⟩;refine hm _ ?_;have ls:(dt!).length<=(aF_).length:=FO _ _;refine dt_;refine Fx fs! (λd=>(kget k5 d).getD .non) trivial _ _ bR_ ?_
 .show"!H";have a9:=(o4!).1;obtain⟨kq,ul⟩:=(w.sg x L q a9).key;refine⟨[some q.1,z!],rfl,hl!,du!⟩;simpa[w2,wl,Bu,Mx,Aa,Hi,hA.ob,oF5,Ec,h5,ul,hA.wr x L q a9]using hK
 .have e:(((o2_).filter λ_=>true).map λd=>(kget k5 d).getD .non)=(dt!).map kt_:=by
   rw[kv!,CB];apply CJ;intro q hq;simp only[Function.comp];rw[hA.wr x L q (o4!).1];rfl
  rw[e];show Hi (Ug hl_ _) _;rw[hj];exact hR
end
structure Op where
 h:Int
 n:Int
 tm:Int
 d:D
nonrec def Op.v(o:Op):D:=.tup kw!
nonrec def Op.nm(o:Op):D:=.tup [hm!,.int o.n]
nonrec def Op.key(o:Op):Int×Int:=(o.tm,o.h)
nonrec def Mf:D->Option ci_
 |.tup [.str k,a]=>if o4_ then some (k,a)else none
 |_=>none
def Mo(k:Str)(a:D):Mf (.tup ks!)=if o4_ then some (k,a)else none:=rfl
def jF(h:DG d):(∃k a,d=.tup ks!/\yr!/\NameG a/\Mf d=some (k,a))\/(∃k r,d=.tup cK!/\hm_=false/\(k=="redo")=false/\Mf d=none):=by
 have uu:o5!=true:=by decide+kernel
 have rr:o5_=true:=by decide+kernel
 cases h with
 |put B Y=>exact .inr ⟨_,_,rfl,gG,gH,rfl⟩
 |move B Y h3=>exact .inr ⟨_,_,rfl,vM,vN,rfl⟩
 |drop B=>
  refine .inr ⟨_,_,rfl,bU,bV,?_⟩;rw[Mo,bU,bV];rfl
 |write B Y h3 h4 h5=>exact .inr ⟨_,_,rfl,pS,pT,rfl⟩
 |cut B Y h3 h4=>exact .inr ⟨_,_,rfl,a0p,a0q,rfl⟩
 |set B Y h3 h4=>exact .inr ⟨_,_,rfl,a0l,a0m,rfl⟩
 |undo B=>
  refine .inl ⟨_,_,rfl,cX!,B,?_⟩;rw[Mo,uu];rfl
 |redo B=>
  refine .inl ⟨_,_,rfl,.inr rfl,B,?_⟩;rw[Mo,rr,bR];rfl
def vR(o:Op):Gj [o.v]=some yt!:=by simp[Gj,Ub,Op.v,Er,Cv,Bz,Ad,An,f2,Aa,fC,Ar,Gf,Ig]
def mV:∀ops:List Op,Zv Gj cM_=some o6!
 |[]=>rfl
 |o::r=>by
  rw[AH];unfold Zv;rw[vR,mV r];rfl
def d2s(o:Op):Px Gj o.v=o.key:=by unfold Px;rw[vR];rfl
def a0y{α β:Type}{f:li!}{k:α->Int×Int}{k':β->Int×Int}(h:yt_)(x:α):∀l:List α,nH k' (f x) hP_=(nH k x l).map f
 |[]=>rfl
 |y::r=>by
  simp only[AH,nH,h];split
  .rfl
  .rw[a0y h x r];rfl
def kJ{α β:Type}{f:li!}{k:α->Int×Int}{k':β->Int×Int}(h:yt_):∀l:List α,Qv k' hP_=(Qv k l).map f
 |[]=>rfl
 |x::r=>by rw[AH];unfold Qv;rw[kJ h r,a0y h]
abbrev Pd(ops:o_):List Op:=Qv Op.key ops
def Wk{ops:o_}(nd:ei_)(hl:ej!):Gm ck!=some (.lst fs_):=by
 have e:c5s Gj cM_=some fs_:=by
  unfold c5s;rw[mV];show(if(o6!).Nodup/\(cM_).length<64 then some _ else none)=_;rw[AQ ⟨nd,kC!⟩,kJ d2s]
 simp[Gm,lH,Er,Cv,a5j,Aa,e]
def fR{a b:o_}(h:a.Perm b)(nd:yu_):Pd a=Pd b:=
 aU (Ro nd) (Ro ((h.map _).nodup_iff.mp nd)) ((Ev a).trans (h.trans (Ev b).symm))
def b2x{a:o_}(nd:yu_):Pd (Pd a)=Pd a:=fR (Ev a) (((Ev a).map _).nodup_iff.mpr nd)
def c3t{o:Op}(h:DG o.d):Cd [o.v]=some o7_:=by
 have e3:Ar o.v aC_=some o.d:=by
  simp[Op.v,Ar,Gf,Ig]
 have main:∀(k:Str) (r:b_),o.d=.tup cK!->Cd [o.v]=some (.bl o4_):=λk r e=>by
  have e0:Ar eh_ G!=some T_:=by
   show oW_;show"!r"
  have e1:∀s:Str,f2 Cg iE_ (fC ba!) [X_]=some (.bl (k==s)):=λs=>by
   show(o8!).bind yv!=_;rw[e3,e];show((Ar eh_ G!)).bind yv!=_;rw[e0];exact Nd k s
  show(match Cv (Jl _ _) [X_]with|some (.rt d)=>some d|some (.nx _)=>some .non|none=>none)=_;unfold Cv Jl fT;rw[e1,e1];cases (k==Str.ofString "undo")<;>rfl
 rcases jF h with⟨k,a,e,hk,_,hu⟩|⟨k,r,e,B,Y,hu⟩
 .rw[main k [a] e,hu];rcases hk with rfl|rfl
  .rw[yw!];rfl
  .rw[yw_,bR];rfl
 .rw[main k r e,hu,B,Y];rfl
nonrec def aK(f:Str->D):List Op->List aA!->List aA!
 |[],acc=>acc
 |o::os,acc=>match Mf o.d with
  |some (k,a)=>aK f os (Bi acc a (f k))
  |none=>aK f os acc
def jN:∀(os:o_) (A hb:g!),(∀x,(kget A x=none/\kget hb x=none)\/∃k:Str,kget A x=some T_/\kget hb x=some fu!)->
  ∀x,(kget yx_ x=none/\kget yy! x=none)\/∃k:Str,kget yx_ x=some T_/\kget yy! x=some fu!
 |[],A,hb,h=>h
 |o::os,A,hb,h=>by
  unfold aK;cases e:Mf o.d with
  |none=>exact jN os A hb h
  |some q=>
   obtain⟨k,a⟩:=q;refine jN os _ _ λx=>?_;by_cases c:a=x
   .subst c;rw[Gv,Gv];exact .inr ⟨k,rfl,rfl⟩
   .rw[Hb c,Hb c];exact h x
section
variable{t:Ca}{M:Mh}{R:D->Mh->Prop}
def Nm{kvs:g!}{ep:Nat}(h:bQ!)(hk:ck_)(hl:dx!):Ur M y! y v=some hG!:=by simp[Ur,h,hk,hl]
def rD(h:NameG x):∃k,Ha x=some k:=by obtain⟨a,b,rfl,_⟩:=h;exact J_
def d3r:Aa 1 o9_=some y!:=rfl
def uS:∀(os:o_) (x1:D) (y:ad_) (acc:g!) (ep:Nat) (M:Mh) (R:q_),kx!->co!+aQ!<1000->M p=some o9!->
  (∀M' bd y',M' p=some (.dct yz! bd)->fv!->R yy_ M')->
  Kf a2_ F! sv_ ap_ o9_ M R
 |[],x1,y,acc,ep,M,R,_,_,hp,hR=>yz_
 |o::os,x1,y,acc,ep,M,R,hd,hl,hp,hR=>by
  refine aO_;show Bs ho_ _ _ bS! M _;have ho:=hd o AL;have et:fT (f1 Cd c7!) bS!=some (Mf o.d).isSome:=by
   have e:f1 Cd c7! bS!=some o7_:=c3t ho;unfold fT;rw[e];rfl
  simp only[AJ]at hl;have e3:Ar o.v aC_=some o.d:=by simp[Op.v,Ar,Gf,Ig]
  rcases jF ho with⟨k,a,e,hk,iu,hu⟩|⟨k,r,e,B,Y,hu⟩
  .rw[hu]at et;refine ifT et ?_;obtain⟨ka,kh⟩:=rD iu;have i0:f2 Ar a3! C_ bS!=some T_:=by
    show o8!=_;rw[e3,e];show Gf [D.str k,a] 0=_;simp[Gf,Ig]
   have i1:f2 Ar a3! t_ bS!=some a:=by
    show yA!;rw[e3,e];show Gf [D.str k,a] 1=_;simp[Gf,Ig]
   have gw:Ur M y! a T_=some yA_:=by
    exact Nm hp kh dp_
   have:=uS (p:=p) os x1 ek! (Bi acc a T_) (Lk acc a ep) yA_ R fv_ (by have:=kput_len acc a T_;omega) mup_same (λM' bd y' B Y=>hR M' bd y' yB! λb O=>(Y b O).trans fw!);show Dz _ _ _ _ M _;simp only[Dz,wl,i0,i1,d3r,gw,Hi];exact this
  .rw[hu]at et;refine Qh et ?_;exact uS (p:=p) os x1 ek! acc ep M R fv_ a! hp yC!
def wA{f:d_}{ρ:Ag}(h:f ρ=some cd!):Iz f ρ=some ds:=by unfold Iz;rw[h];rfl
def pE{ops:o_}(nd:ei_)(hl:ej!)(hd:hp!)
  (hR:∀p M' ep,M p=none->M' p=some (.dct hp_ ep)->fv!->R y! M'):Jw ck! M R:=by
 refine m_;show Ao iF_ _ yE! M _;intro p hp;have hi:Iz iG! ky_=some fs_:=wA (Wk nd hl);have br:(aY_).Perm ops:=Ev ops;have:=uS (p:=p) aY_ hq_ none [] 0 cO! (λr M1=>match r with|.nx ai=>Cn u! ai M1 gP_|.rt d=>R d M1) yE_ yF! mup_same yF_;show Ao (Fn (Qu _) _ _) _ ky_ _ _;simp only[Ao,Fn,Qu,hi,Hi];exact this
def t2{g:aX!}{fa:WE}{fb:d_}{ρ:Ag}{K:fA!}{b:Bool}(ha:∀K':D->Mh->Prop,K' d M->fa ρ M K')(O:fb ρ=some v)(hg:g d v=some bH_)(k:K b M):wT (w2 pn! fa hr!) ρ M K:=by unfold wT w2;refine ha _ ?_;simp only[wl,O,hg];exact k
nonrec def Undn(wd:g!)(o:Op):Prop:=Mf o.d=none/\kget wd o.nm=some b2_
def b3a(o:Op):Cy o.v none (some 2)=some o.nm:=by simp[Op.v,Op.nm,Cy,Ge,HT.sIx]
def a4l(o:Op):∃k,Ha o.nm=some k:=J_
def a6h{e0:Nat}(qi:p≠q):∀(os:o_) (x1:D) (y z:ad_) (acc:g!) (ep:Nat) (M:Mh) (R:q_),kx!->co!+aQ!<1000->M p=some (.dct wd e0)->M q=some o9!->(∀x v,kget wd x=some v->∃k:Str,v=.str k)->
  (∀M' bd y' z' de,M' q=some (.dct de bd)->(∀x,kget de x≠none↔(kget acc x≠none\/∃o∈os,o.nm=x/\Undn wd o))->yG_->R (.nx [H!,H_,aq!,y',z']) M')->
  Kf N! F! iI! ap_ [H!,H_,aq!,y,z] M R
 |[],x1,y,z,acc,ep,M,R,_,_,hp,hq,k9,hR=>⟨trivial,hR M ep y z acc hq yH! λb _=>rfl⟩
 |o::os,x1,y,z,acc,ep,M,R,hd,hl,hp,hq,k9,hR=>by
  refine aO_;show Ao (Az 4 _) _ yH_ M _;have ho:=hd o AL;simp only[AJ]at hl;have es:Je G_ Bw c3! yH_=some o.nm:=b3a o;simp only[Ao,Az,wl,es];show Bs _ _ _ dv_ M _;have et:Fk sx_ dv_=some (!(Mf o.d).isSome):=by
   have e:f1 Cd iH! dv_=some o7_:=c3t ho;unfold Fk fT;rw[e];rfl
  obtain⟨kn,f7⟩:=a4l o;have next:∀(c:Prop),(c↔Undn wd o)->∀de bd M',M' q=some (.dct de bd)->(∀x,kget de x≠none↔(kget acc x≠none\/(x=o.nm/\c)))->de.length<=co!+1->yG_->
    Kf N! F! iI! ap_ dv_ M' R:=λc hc de bd M' B Y h3 h4=>by
   refine a6h (p:=p) (q:=q) (wd:=wd) (e0:=e0) qi os x1 _ _ de bd M' R fv_ a! ((h4 p qi).trans hp) B k9 λM2 sy y2 z2 VH g1 g2 g3=>hR M2 sy y2 z2 VH g1 pb! λb O=>(g3 b O).trans (h4 b O);rw[g2,Y];show"!Q"
   .rintro((u|⟨u1,u2⟩)|⟨o',u1,u2,u3⟩)
    .exact .inl u
    .exact .inr ⟨o,AL,u1.symm,hc.mp u2⟩
    .exact .inr ⟨o',AD _ u1,u2,u3⟩
   .rintro(u|⟨o',u1,u2,u3⟩)
    .exact .inl (.inl u)
    .rcases AE.mp u1 with rfl|u1
     .exact .inl (.inr ⟨u2.symm,hc.mpr u3⟩)
     .exact .inr ⟨o',u1,u2,u3⟩
  have no:(¬Undn wd o)->Kf N! F! iI! ap_ dv_ M R:=λh=>next False (by simp[h]) acc ep M hq yH! a! λb _=>rfl;cases hu:Mf o.d with
  |some u=>
   rw[hu]at et;simp only[Bs,Me,Gc,et];exact no λz=>by rw[z.1]at hu;cases hu
  |none=>
   rw[hu]at et;simp only[Bs,Me,Gc,et];have hg:∀(K:v_),K yJ_ M->dD u! ak! dv_ M K:=λK hK=>by
    have c1:Il M y!=some (p,wd,e0):=by simp[Il,hp]
    show Hi (Il M y!) λ_=>Hi (Il M y!) λq=>Hi (Ha o.nm) λ_=>K ((kget q.2.1 o.nm).getD .non) M;rw[c1,f7];exact hK
   have VI:Sd yJ_:=by
    cases e:kget wd o.nm with
    |none=>exact .inl rfl
    |some v=>obtain⟨k,rfl⟩:=k9 _ _ e;exact Pj k
   have OT:(pb_).getD .non=.str "undo"↔Undn wd o:=by
    unfold Undn;rw[hu];cases e:kget wd o.nm with
    |none=>simp
    |some v=>simp
   refine t2 hg (v:=ow_) rfl (cL VI (Pj _)) ?_;by_cases c:(pb_).getD .non=.str "undo"
   .rw[BK c];have gw:=Nm (y:=o.nm) (v:=if_) hq f7 dp_;have f2:Aa 2 dv_=some bl!:=rfl;have f4:Aa 4 dv_=some o.nm:=rfl;rw[j!];simp only[Dz,wl,fC,f2,f4,gw,Hi];refine next True (by simp[<-OT,c]) _ _ _ mup_same pb! dY_ λb O=>mup_ne O;by_cases e:o.nm=x
    .subst e;rw[Gv];simp
    .rw[Hb e];simp[AK e]
   .rw[AW c];rw[Z!];exact no λz=>c (OT.mpr z)
def sP:∀(os:o_) (acc:g!),(∀x v,kget acc x=some v->∃k:Str,v=.str k)->∀x v,kget yz! x=some v->∃k:Str,v=.str k
 |[],acc,h=>h
 |o::os,acc,h=>by
  unfold aK;cases e:Mf o.d with
  |none=>exact sP os acc h
  |some q=>
   obtain⟨k,a⟩:=q;refine sP os _ λx v L=>?_;by_cases c:a=x
   .subst c;rw[Gv]at L;cases L;exact⟨k,rfl⟩
   .rw[Hb c]at L;exact h x v L
def a9o{ops:o_}(nd:ei_)(hl:ej!)(hd:hp!)
  (hR:∀q M' ep kq,M q=none->M' q=some (.dct kq ep)->(∀x,kget kq x≠none↔∃o∈ops,o.nm=x/\Undn hp_ o)->kz_->R bl! M'):Sb ck! M R:=by
 refine m_;show Ao sw! _ pc! M _;have hc:∀(K:v_),Jw ck! M K->Ba 1 Jw a3_ pc! M K:=λK h=>ca_;refine hc _ (pE nd hl hd λp M1 ep hp hM1 fr=>?_);show Ao eK! _ [bS_,H_,none,none,none] M1 _;intro q hq;have qi:p≠q:=λz=>by rw[<-z,hM1]at hq;cases hq
 have ou:M q=none:=by rw[<-fr q (AK qi)];exact hq
 have hi:Iz n! yK!=some cM_:=rfl;show Ao (Fn iG_ _ _) _ yK! (Cb M1 q D_) _;simp only[Ao,Fn,Qu,hi,Hi];refine a6h (wd:=pc_) (e0:=ep) qi ops hq_ none none [] 0 _ _ hd bJ! ((mup_ne qi).trans hM1) mup_same (sP _ [] λx v h=>by simp[kget]at h) λM' bd y' z' de B Y h3=>?_;refine hR q M' bd de ou B pb! λb O=>?_
 .rw[Y];simp[kget]
 .have b1:b≠q:=λz=>O (by rw[z];exact ou);have b2:b≠p:=λz=>O (by rw[z];exact hp);rw[h3 b b1,mup_ne b1,fr b b2]
end
nonrec def W0:OW:=⟨[],[],λ_=>[],λ_=>[]⟩
def a9h:pX W0 []:=by refine⟨⟨by simp[W0],dw!,by simp[W0],λx=>by simp[W0],yL!,⟨λ_=>0,yL!⟩,dw!,dw!,dw!,dw!⟩,dw!,dw!,dw!⟩
section
variable{t:Ca}{M:Mh}{R:D->Mh->Prop}
def Fh(f:Str)(v:D):∀l:List ci_,(Dg f v l).length<=P!+1
 |[]=>by simp[Dg]
 |(g,x)::r=>by
  unfold Dg;split
  .simp
  .have:=Fh f v r;simp;omega
nonrec def Kp(o:Addr)(M M':Mh):Prop:=∀c,M c≠none->c≠o->M' c=M c
def Kp.trans{M M1 M2:Mh}(a:Kp o M M1)(b:Kp o M1 M2):Kp o M M2:=λc B Y=>by
 have e:=a c B Y;rw[b c (by rw[e];exact B) Y,e]
def cO{fs:aP_}{R:q_}(ho:M o=some g4_)(hl:bs!<100)
  (hR:∀a M',M a=none->M' a=some D_->M' o=some (.obj C (Dg x dh_ fs))->Kp o M M'->(∀c,M' c≠none->M c≠none\/c=a)->R (.nx [z!]) M'):Hj C x i! Jg [z!] M R:=by
 intro a ha;have oa:o≠a:=λz=>by rw[<-z,ho]at ha;cases ha
 have e:Cb M a D_ o=some g4_:=(mup_ne oa).trans ho;have f0:Aa 0 [z!]=some ax_:=rfl;simp only[wl,f0,e];refine⟨trivial,hl,hR a _ ha ((mup_ne (AK oa)).trans mup_same) mup_same (λc B Y=>?_) λc hc=>?_⟩
 .rw[cF!,mup_ne λz=>B (by rw[z];exact ha)]
 .by_cases c1:c=a
  .exact .inr c1
  .by_cases c2:c=o
   .rw[c2,ho];exact .inl c_
   .rw[kA_,mup_ne c1]at hc;exact .inl hc
def pc{fa:d_}{fb:WE}{fp:WP}{ρ:Ag}{R:zG_}(h:pd_)(k:fb ρ M λy M2=>fp ρ M2 λkvs M3=>R ((x,y)::kvs) M3):Im em! fb fp ρ M R:=by simp only[Im,wl,h];exact k
def uQ{ρ:Ag}(hR:∀o rl M',M o=none->Ep t M' o rl W0 2->pe!->R ax_ M'):Oi t.B4 1 (Oz t) Al ρ M R:=by
 refine⟨rfl,λo ho=>m_⟩;have f0:Aa 0 [z!]=some ax_:=rfl;show Ao (Hj t.B4 "parents" _ _) _ [z!] (Cb M o pe_) _;intro a1 wp;have jw:a1≠o:=λz=>by rw[z,mup_same]at wp;cases wp
 rw[mup_ne jw]at wp;refine⟨mup_same,W!,ht!,?_,?_⟩
 .rcases AE.mp hq with rfl|hq
  .rfl
  .rw[kB!];rfl
 .show yM!;rw[AX];exact yM_
 have e1:Cb pf! a1 pg! o=some pe_:=by rw[yN!,yN!,mup_same]
 simp only[wl,f0];show(match Cb pf! a1 pg! o with|some (.obj C' fs)=>_|_=>False);rw[e1];refine⟨rfl,W!,?_⟩;generalize wu:Cb (Cb pf! a1 pg!) o ph!=S1;have qj:S1 o=some ph!:=by rw[<-wu,mup_same]
 have qk:S1 a1=some (.dct kB_ 2):=by rw[<-wu,mup_ne jw,mup_same];rfl
 have VJ:∀c,c≠o->c≠a1->S1 c=M c:=λc B Y=>by rw[<-wu,cc!,cF!,cF!,cc!]
 clear wu e1;show Ao (Hj t.B4 "rows" _ _) _ [z!] S1 _;intro a2 ql;have jx:a2≠o:=λz=>by rw[z,qj]at ql;cases ql
 refine pc rfl ?_;refine bJ λr1 f1 p1 N1 z1 z2 z3 _ _ R1 K1=>?_;refine pc rfl ?_;refine bJ λr2 f2 p2 N2 y1 y2 y3 _ _ R2 K2=>?_;have l1:∀c,Cb S1 a2 D_ c≠none->N1 c=Cb S1 a2 D_ c:=λc hc=>K1 c (Bj hc z1) (Bj hc z2) (Bj hc z3);have l2:∀c,N1 c≠none->N2 c=N1 c:=λc hc=>K2 c (Bj hc y1) (Bj hc y2) (Bj hc y3);have zt:N1 a2=some D_:=by rw[l1 a2 ht_,mup_same]
 have VL:N2 a2=some D_:=by rw[l2 a2 (by rw[zt];simp),zt]
 have zu:N1 o=S1 o:=by rw[l1 o (by rw[kC_,qj];simp),kC_]
 have VM:N2 o=S1 o:=by rw[l2 o yO_,zu]
 refine⟨VL,J!,ht!,?_,?_⟩
 .rcases AE.mp hq with rfl|hq
  .rfl
  .rw[kB!];rfl
 .show yM!;rw[AX];exact yM_
 have e2:Cb N2 a2 pi! o=some ph!:=by rw[kC_,VM,qj]
 simp only[wl,f0];show(match Cb N2 a2 pi! o with|some (.obj C' fs)=>_|_=>False);rw[e2];refine⟨rfl,by have:=Fh d1_ fx! [];simp at this;omega,?_⟩;generalize wv:Cb (Cb N2 a2 pi!) o yP_=S2;have OU:S2 o=some yP_:=by rw[<-wv,mup_same]
 have zw:S2 a2=some (.dct kD! 2):=by rw[<-wv,mup_ne jx,mup_same];rfl
 have um:∀c,c≠o->c≠a2->S2 c=N2 c:=λc B Y=>by rw[<-wv,cc!,cF!]
 clear wv e2;have ow:∀c,N1 c≠none->c≠r2/\c≠f2/\c≠p2:=λc hc=>⟨Bj hc y1,Bj hc y2,Bj hc y3⟩;have v1:=R1.live;have v2:=R2.live;have nr:∀c,Cb S1 a2 D_ c≠none->c≠r1/\c≠f1/\c≠p1:=λc hc=>⟨Bj hc z1,Bj hc z2,Bj hc z3⟩;have so:Cb S1 a2 D_ o≠none:=by rw[kC_,qj];simp
 have sa:Cb S1 a2 D_ a2≠none:=by rw[mup_same];simp
 have zx:Kp o S1 S2:=λc hc h=>by
  have c2:c≠a2:=λz=>hc (by rw[z];exact ql);have s:Cb S1 a2 D_ c≠none:=by rw[kA_];exact hc
  have e:=l1 c s;rw[um c h c2,l2 c (by rw[e];exact s),e,kA_]
 refine cO (x:=hv!) OU (by have:=Fh dg_ hu! fx_;have:=Fh d1_ fx! [];simp at this;omega) λa3 S3 q3 zy OV uo w3=>?_;refine cO (x:=ic!) OV (by have:=Fh d2! kD_ hu_;have:=Fh dg_ hu! fx_;have:=Fh d1_ fx! [];simp at this;omega) λa4 S4 q4 zz OX qm w4=>?_;refine cO (x:="written") OX (by have:=Fh fa! (.fn a4) pi_;have:=Fh d2! kD_ hu_;have:=Fh dg_ hu! fx_;have:=Fh d1_ fx! [];simp at this;omega) λa5 S5 q5 z6 OY ox w5=>?_;refine cO (x:="hidden") OY (by have:=Fh nJ! (.fn a5) yR_;have:=Fh fa! (.fn a4) pi_;have:=Fh d2! kD_ hu_;have:=Fh dg_ hu! fx_;have:=Fh d1_ fx! [];simp at this;omega) λa6 S6 q6 VN z7 OZ w6=>?_;have hob:Dg vC_ (.fn a6) (Dg nJ! (.fn a5) yR_)=oF a1 a2 a3 a4 a5 a6:=by kernel_rfl
 rw[hob]at z7;have PB:=ox.trans OZ;have PD:=qm.trans PB;have ww:=uo.trans PD;have PF:=zx.trans ww;have lo:∀{N:Mh} {c:Addr} {x:dA},N c=some x->N c≠none:=λh=>by rw[h];simp
 have o3:a3≠o:=λz=>by rw[z,OU]at q3;cases q3
 have o4:a4≠o:=λz=>by rw[z,OV]at q4;cases q4
 have o5:a5≠o:=λz=>by rw[z,OX]at q5;cases q5
 have o6:a6≠o:=λz=>by rw[z,OY]at q6;cases q6
 have F1:S6 a1=some (.dct kB_ 2):=(PF a1 (lo qk) jw).trans qk;have F2:S6 a2=some (.dct kD! 2):=(ww a2 (lo zw) jx).trans zw;have F3:S6 a3=some D_:=(PD a3 (lo zy) o3).trans zy;have F4:S6 a4=some D_:=(PB a4 (lo zz) o4).trans zz;have F5:S6 a5=some D_:=(OZ a5 (lo z6) o5).trans z6;have F6:=VN;have z8:∀c,N1 c≠none->c≠o->c≠a2->S6 c=N1 c:=λc hc B Y=>by
  have e:=l2 c hc;have e':=um c B Y;rw[ww c (by rw[e',e];exact hc) B,e',e]
 have z9:∀c,N2 c≠none->c≠o->c≠a2->S6 c=N2 c:=λc hc B Y=>by
  have e':=um c B Y;rw[ww c (by rw[e'];exact hc) B,e']
 have qo:=nr o so;have qq:=nr a2 sa;have Q1:Ic t S6 r1 f1 p1 []:=R1.keep (z8 _ v1.1 (AK qo.1) (AK qq.1)) (z8 _ v1.2.1 (AK qo.2.1) (AK qq.2.1)) (z8 _ v1.2.2 (AK qo.2.2) (AK qq.2.2));have mo:=ow o yO_;have ma:=ow a2 (lo zt);have Q2:Ic t S6 r2 f2 p2 []:=R2.keep (z9 _ v2.1 (AK mo.1) (AK ma.1)) (z9 _ v2.2.1 (AK mo.2.1) (AK ma.2.1)) (z9 _ v2.2.2 (AK mo.2.2) (AK ma.2.2))
 let rl:Addr->dB:=λc=>if c=o then .ob else if c=a1 then .par else if c=a2 then .rows else if c=a3 then .texts else if c=a4 then .nums else if c=a5 then .writ else if c=a6 then .hid else if c=r1 then .rO root else if c=f1 then .rF root else if c=p1 then .rP root else if c=r2 then .rO Di else if c=f2 then .rF Di else if c=p2 then .rP Di else .oth
 have VO:∀c,M c≠none->S6 c=M c/\c≠o/\c≠a1/\c≠a2/\c≠a3/\c≠a4/\c≠a5/\c≠a6/\wx_/\(c≠r2/\c≠f2/\c≠p2):=λc hc=>by
  have c0:c≠o:=Bj hc ho;have c1:c≠a1:=Bj hc wp;have s1:S1 c=M c:=VJ c c0 c1;have uq:S1 c≠none:=by rw[s1];exact hc
  have c2:c≠a2:=Bj uq ql;have s2:S2 c≠none:=by rw[zx c uq c0];exact uq
  have c3:c≠a3:=Bj s2 q3;have s3:S3 c≠none:=by rw[uo c s2 c0];exact s2
  have c4:c≠a4:=Bj s3 q4;have s4:S4 c≠none:=by rw[qm c s3 c0];exact s3
  have c5:c≠a5:=Bj s4 q5;have s5:S5 c≠none:=by rw[ox c s4 c0];exact s4
  have c6:c≠a6:=Bj s5 q6;have sm:Cb S1 a2 D_ c≠none:=by rw[kA_];exact uq
  have n1:N1 c≠none:=by rw[l1 c sm];exact sm
  exact⟨(PF c uq c0).trans s1,c0,c1,c2,c3,c4,c5,c6,nr c sm,ow c n1⟩
 refine⟨trivial,hR o rl S6 ho ⟨a1,a2,a3,a4,a5,a6,kB_,kD!,[],[],[],[],?_⟩ λb O=>?_⟩
 .have g0:rl o=.ob:=AQ rfl;have X8:S6 a1≠none:=lo F1;have g1:rl a1=.par:=by show(if a1=o then _ else _)=_;rw[AI jw,j!]
  have PH:a2≠a1:=λz=>by rw[z,qk]at ql;cases ql
  have g2:rl a2=.rows:=by show(if a2=o then _ else _)=_;rw[AI jx,AI PH,j!]
  have F':S2 a1≠none:=by rw[zx a1 (lo qk) jw];exact lo qk
  have J':S2 a2≠none:=lo zw;have VP:=AK (Bj F' q3);have zn:=AK (Bj J' q3);have g3:rl a3=.texts:=by show(if a3=o then _ else _)=_;rw[AI o3,AI VP,AI zn,j!]
  have KD:S3 a1≠none:=by rw[uo a1 F' jw];exact F'
  have KF:S3 a2≠none:=by rw[uo a2 J' jx];exact J'
  have KG:S3 a3≠none:=lo zy;have g4:rl a4=.nums:=by show(if a4=o then _ else _)=_;rw[AI o4,AI (AK (Bj KD q4)),AI (AK (Bj KF q4)),AI (AK (Bj KG q4)),j!]
  have KH:S4 a1≠none:=by rw[qm a1 KD jw];exact KD
  have KI:S4 a2≠none:=by rw[qm a2 KF jx];exact KF
  have KJ:S4 a3≠none:=by rw[qm a3 KG o3];exact KG
  have KL:S4 a4≠none:=lo zz;have g5:rl a5=.writ:=by show(if a5=o then _ else _)=_;rw[AI o5,AI (AK (Bj KH q5)),AI (AK (Bj KI q5)),AI (AK (Bj KJ q5)),AI (AK (Bj KL q5)),j!]
  have VQ:S5 a1≠none:=by rw[ox a1 KH jw];exact KH
  have VR:S5 a2≠none:=by rw[ox a2 KI jx];exact KI
  have VS:S5 a3≠none:=by rw[ox a3 KJ o3];exact KJ
  have VT:S5 a4≠none:=by rw[ox a4 KL o4];exact KL
  have VU:S5 a5≠none:=lo z6;have g6:rl a6=.hid:=by show(if a6=o then _ else _)=_;rw[AI o6,AI (AK (Bj VQ q6)),AI (AK (Bj VR q6)),AI (AK (Bj VS q6)),AI (AK (Bj VT q6)),AI (AK (Bj VU q6)),j!]
  have PJ:∀c,S2 c≠none->c≠o->c≠a3/\c≠a4/\c≠a5/\c≠a6:=λc Y co=>by
   have s3:S3 c≠none:=by rw[uo c Y co];exact Y
   have s4:S4 c≠none:=by rw[qm c s3 co];exact s3
   have s5:S5 c≠none:=by rw[ox c s4 co];exact s4
   exact⟨Bj Y q3,Bj s3 q4,Bj s4 q5,Bj s5 q6⟩
  have u1:∀c,N1 c≠none->c≠o->c≠a2->S2 c≠none:=λc hc B Y=>by rw[um c B Y,l2 c hc];exact hc
  have u2:∀c,N2 c≠none->c≠o->c≠a2->S2 c≠none:=λc hc B Y=>by rw[um c B Y];exact hc
  have KM:Cb S1 a2 D_ a1≠none:=by rw[mup_ne (AK PH)];exact lo qk
  have KN:=nr a1 KM;have KO:=ow a1 (by rw[l1 a1 KM];exact KM);have KP:∀c,N1 c≠none->c≠o->c≠a1->c≠a2->rl c=if c=r1 then .rO root else if c=f1 then .rF root else if c=p1 then .rP root else if c=r2 then .rO Di else if c=f2 then .rF Di else if c=p2 then .rP Di else .oth:=λc hc h0 B Y=>by
   obtain⟨x3,x4,x5,x6⟩:=PJ c (u1 c hc h0 Y) h0;show"#,"
  have KQ:∀c,N2 c≠none->c≠o->c≠a1->c≠a2->rl c=if c=r1 then .rO root else if c=f1 then .rF root else if c=p1 then .rP root else if c=r2 then .rO Di else if c=f2 then .rF Di else if c=p2 then .rP Di else .oth:=λc hc h0 B Y=>by
   obtain⟨x3,x4,x5,x6⟩:=PJ c (u2 c hc h0 Y) h0;show"#,"
  have h7:rl r1=.rO root:=by rw[KP r1 v1.1 (AK qo.1) (AK KN.1) (AK qq.1),j!]
  have h8:rl f1=.rF root:=by rw[KP f1 v1.2.1 (AK qo.2.1) (AK KN.2.1) (AK qq.2.1),AI (AK R1.rne.1),j!]
  have h9:rl p1=.rP root:=by rw[KP p1 v1.2.2 (AK qo.2.2) (AK KN.2.2) (AK qq.2.2),AI (AK R1.rne.2),AI (AK R1.ne),j!]
  have b1:=ow r1 v1.1;have b2:=ow f1 v1.2.1;have b3:=ow p1 v1.2.2;have VV:rl r2=.rO Di:=by rw[KQ r2 v2.1 (AK mo.1) (AK KO.1) (AK ma.1),AI (AK b1.1),AI (AK b2.1),AI (AK b3.1),j!]
  have VW:rl f2=.rF Di:=by rw[KQ f2 v2.2.1 (AK mo.2.1) (AK KO.2.1) (AK ma.2.1),AI (AK b1.2.1),AI (AK b2.2.1),AI (AK b3.2.1),AI (AK R2.rne.1),j!]
  have VX:rl p2=.rP Di:=by rw[KQ p2 v2.2.2 (AK mo.2.2) (AK KO.2.2) (AK ma.2.2),AI (AK b1.2.2),AI (AK b2.2.2),AI (AK b3.2.2),AI (AK R2.rne.2),AI (AK R2.ne),j!]
  have kr:kget ph_ root=some (.fn r1):=by show yX!=_;rw[j!]
  have kb:kget ph_ Di=some (.fn r2):=by
   show yY!;rw[AI a6w,j!]
  have VY:kget pf_ root=some .non:=by show yX!=_;rw[j!]
  have VZ:kget pf_ Di=some .non:=by
   show yY!;rw[AI a6w,j!]
  exact{
      ob:=z7,d1:=⟨_,F1⟩,d2:=⟨_,F2⟩,d3:=⟨_,F3⟩,d4:=⟨_,F4⟩,d5:=⟨_,F5⟩,d6:=⟨_,F6⟩
      ro:=g0,r1:=g1,r2:=g2,r3:=g3,r4:=g4,r5:=g5,r6:=g6
      p0:=⟨VY,VZ⟩
      pr:=λi p h=>yK_
      row:=λx L=>by
       rcases L with L|rfl|rfl
       .simp[W0]at L
       .exact⟨r1,f1,p1,kr,Q1,h7,h8,h9⟩
       .exact⟨r2,f2,p2,kb,Q2,VV,VW,VX⟩
      rown:=λx L=>by
       unfold Kh at L;rw[GO,GO]at L;show(if root=x then _ else(if Di=x then _ else _))=_;rw[AI (AK L.2.1),AI (AK L.2.2)];rfl
      txt:=λx L=>fw_
      txtn:=λx _=>rfl
      num:=λx L=>fw_
      wr:=λx L=>fw_
      hi:=λx L=>fw_
      hk:=λs hs=>(by simp[kget]at hs)
      l1:=by simp,l2:=by simp,l3:=by simp,l4:=by simp,l5:=by simp,l6:=by simp,lr:=by simp[W0],lt:=λx L=>fw_
      live:=λc hc=>by
       by_cases y0:c=o
       .rw[y0];exact lo z7
       by_cases ue:c=a1
       .rw[ue];exact lo F1
       by_cases uf:c=a2
       .rw[uf];exact lo F2
       by_cases ky:c=a3
       .rw[ky];exact lo F3
       by_cases kz:c=a4
       .rw[kz];exact lo F4
       by_cases on:c=a5
       .rw[on];exact lo F5
       by_cases qh:c=a6
       .rw[qh];exact lo F6
       by_cases me:c=r1
       .rw[me];exact Q1.live.1
       by_cases PK:c=f1
       .rw[PK];exact Q1.live.2.1
       by_cases PL:c=p1
       .rw[PL];exact Q1.live.2.2
       by_cases PM:c=r2
       .rw[PM];exact Q2.live.1
       by_cases PN:c=f2
       .rw[PN];exact Q2.live.2.1
       by_cases PP:c=p2
       .rw[PP];exact Q2.live.2.2
       exfalso;apply hc;show pk!=_;rw[AI y0,AI ue,AI uf,AI ky,AI kz,AI on,AI qh,AI me,AI PK,AI PL,AI PM,AI PN,AI PP]}
 .obtain⟨d1,d2,d3,d4,d5,d6,d7,d8,d9,KR⟩:=VO b O;refine⟨d1,?_⟩;show(if b=o then _ else _)=_;rw[AI d2,AI d3,AI d4,AI d5,AI d6,AI d7,AI d8,AI d9.1,AI d9.2.1,AI d9.2.2,AI KR.1,AI KR.2.1,AI KR.2.2]
end
def b5r{α β:Type}{f:li!}:∀{l:K_},(hP_).Nodup->∀{x y:α},x∈l->y∈l->f x=f y->x=y
 |[],_,_,_,h,_,_=>by cases h
 |a::l,nd,x,y,L,hy,e=>by
  rw[AH,AX]at nd;rcases AE.mp L with B|B<;>rcases AE.mp hy with Y|Y
  .rw[B,Y]
  .exact absurd (by rw[<-B,e];exact AM Y) nd.1
  .exact absurd (by rw[<-Y,<-e];exact AM B) nd.1
  .exact b5r nd.2 B Y e
inductive Run:OW->List Op->OW->Prop
 |nil {W:OW}:Run W [] W
 |cons {W W1 W2:OW} {o:Op} {os:o_}:oI W o.nm o.d W1->Run W1 os W2->Run W hx_ W2
nonrec def iF(wd:g!)(os:o_):List Op:=os.filter λo=>decide (Mf o.d=none/\¬kget wd o.nm=some b2_)
section
variable{t:Ca}{M:Mh}{R:D->Mh->Prop}
nonrec def plB(t:Ca):WS:=Ao eK_ sK_
def a7i{e0:Nat}{ops:o_}(hq:∀x∈ops,kget kq x.nm≠none↔Undn wd x):∀(os:o_) (x1:D) (y z:ad_) (M:Mh) (rl:bN_) (W W':OW) (pre:b_) (hb:Nat) (R:q_),
  (∀x∈os,x∈ops/\DG x.d)->y1!->(kG_).Nodup->Ep t M o rl W hb->pX W pre->Run W pn_ W'->hb+20*aQ!<3900->M q=some (.dct kq e0)->rl q=.oth->
  (∀M' af y' z',Ep t M' o af W' po_->po!->Fr M rl M' af->R (.nx [H!,z!,aq!,y',z']) M')->
  Kf N! F! (plB t) ap_ [H!,z!,aq!,y,z] M R
 |[],x1,y,z,M,rl,W,W',pre,hb,R,_,_,_,hO,w,hr,_,_,_,hR=>by
  cases hr;exact⟨trivial,hR M rl y z hO ⟨pre,w⟩ .refl⟩
 |x::os,x1,y,z,M,rl,W,W',pre,hb,R,hd,hp,nd,hO,w,hr,hB,ou,ju,hR=>by
  refine aO_;show plB t pp! M _;show Ao (Az 4 _) _ pp! M _;obtain⟨L,jn⟩:=hd x AL;simp only[AJ]at hB hR;rw[AH,AX]at nd;have es:Je G_ Bw c3! pp!=some x.nm:=b3a x;simp only[Ao,Az,wl,es];obtain⟨kn,f7⟩:=a4l x;have ut:Pz true M x.nm bl!=some (.bl (!(kget kq x.nm).isSome)):=by simp[Pz,ou,f7]
  have f4:Aa 4 en!=some x.nm:=rfl;have uv:Aa 2 en!=some bl!:=rfl;have V5:Aa 1 en!=some ax_:=rfl;have V6:f2 Ar G_ av! en!=some x.d:=by
   show Ar x.v aC_=_;simp[Op.v,Ar,Gf,Ig]
  show Bs sJ! _ _ en! M _;simp only[Bs,wT,w2,wl,f4,uv,ut];have hu:=hq x L;have rest:∀(M1:Mh) (gg:bN_) (W1:OW) (wx:b_),Ep t M1 o gg W1 a9_->pX W1 wx->(∀y∈os,y.nm∉wx)->Run W1 pn_ W'->Fr M rl M1 gg->Kf N! F! (plB t) ap_ en! M1 R:=λM1 gg W1 wx B Y h3 h4 h5=>
   a7i (o:=o) (q:=q) (kq:=kq) (wd:=wd) (e0:=e0) hq os x1 pp_ (some x.nm) M1 gg W1 W' wx a9_ R pq! h3 nd.2 B Y h4 a! ((y3_).1.trans ou) (y3_).2 (λM' af y' z' g1 g2 g3=>hR M' af y' z' (by rw[y4!];exact g1) g2 (h5.trans g3))
  by_cases c:kget kq x.nm=none
  .rw[c,gK_];have hc:∀(K:v_),Zx t [aV_,x.nm,x.d] M K->Ba 3 (Zx t) sK! en! M K:=λK h=>by
    simp only[Ba,Ac,Al,wl,V5,f4,V6];exact ca_
   refine Nu (hc _ ?_);rcases jF jn with⟨k,a,e,hk,_,wy⟩|⟨k,r,e,_,_,wy⟩
   .have:iF wd hy_=iF wd os:=by unfold iF;rw[CN (by simp[wy])]
    rw[this]at hr;rw[e];exact c0v hk (rest M rl W pre n4! w ps! hr .refl)
   .have b7:¬kget wd x.nm=some b2_:=λz=>absurd c (hu.mpr ⟨wy,z⟩);have:iF wd hy_=x::iF wd os:=by unfold iF;rw[CM (by simp[wy,b7])]
    rw[this]at hr;cases hr with
    |cons hs hr=>
     have w1:=sS hs w kI!;refine c0u hO w kI! hs a! λM1 gg B Y=>rest M1 gg _ _ B w1 y5_ hr Y;rcases AR.mp z with z|z
     .exact hp y d0_ z
     .rw[AV]at z;exact nd.1 y6!
  .have hU:=hu.mp c;obtain⟨v,hv⟩:=Option.ne_none_iff_exists'.mp c;rw[hv,Z!];unfold Eu;have:iF wd hy_=iF wd os:=by unfold iF;rw[CN (by simp[hU.1,hU.2])]
   rw[this]at hr;exact rest M rl W pre n4! w ps! hr .refl
def Ep.live{rl:bN_}{hb:Nat}(h:aG!)(O:rl b≠.oth):M b≠none:=by obtain⟨_,_,_,_,_,_,_,_,_,_,_,_,hA⟩:=h;exact hA.live b O
def Ep.keep{M':Mh}{rl:bN_}{hb:Nat}(hO:aG!)(k:y7!):Ep t M' o rl W hb:=by
 obtain⟨a1,a2,a3,a4,a5,a6,k1,k2,k3,k4,k5,k6,hA⟩:=hO;refine⟨a1,a2,a3,a4,a5,a6,k1,k2,k3,k4,k5,k6,{hA with ob:=?_,d1:=?_,d2:=?_,d3:=?_,d4:=?_,d5:=?_,d6:=?_,row:=?_,txt:=?_,num:=?_,live:=?_}⟩
 .rw[k o O!];exact hA.ob
 .rw[k a1 bO!];exact hA.d1
 .rw[k a2 ay_];exact hA.d2
 .rw[k a3 aW!];exact hA.d3
 .rw[k a4 aW_];exact hA.d4
 .rw[k a5 aO!];exact hA.d5
 .rw[k a6 az!];exact hA.d6
 .intro x L;obtain⟨r',f',p',v1,v2,v3,v4,v5⟩:=hA.row x L;exact y7_
 .intro x L;obtain⟨r',f',p',v1,v2,v3,v4,v5⟩:=hA.txt x L;exact y7_
 .intro x L;obtain⟨q',v1,v2,v3⟩:=hA.num x L;exact⟨q',v1,(k _ bC_).trans v2,v3⟩
 .intro b O;rw[k b O];show"#2"
def b0k{ops:o_}(nd:ei_)(nn:y8!)(hl:ej!)(hd:hp!)(hr:Run W0 (iF hp_ aY_) W')
  (hR:∀o M' af,M o=none->Ep t M' o af W' 1500->y8_->(∀b,M b≠none->M' b=M b/\af b=.oth)->R ax_ M'):Qa t ck! M R:=by
 refine m_;show Ao sI! _ pc! M _;simp only[Ao,Az];refine uQ λo rl M1 ho hO fr=>?_;show(Ba 1 Sb a3_) y9! M1 _;have hc:∀(K:v_),Sb ck! M1 K->Ba 1 Sb a3_ y9! M1 K:=λK h=>ca_;refine hc _ (a9o nd hl hd λq M2 ep kq hq cx ul uw=>?_);have hi:Iz iG! y9_=some fs_:=wA (Wk nd hl);show Fn (Qu _) _ (plB t) y9_ M2 _;simp only[Fn,Qu,hi,Hi];have hp:(aY_).Perm ops:=Ev ops;have ju:rl q=.oth:=by
  by_cases z:rl q=.oth
  .exact z
  .obtain⟨_,_,_,_,_,_,_,_,_,_,_,_,hA⟩:=hO;exact absurd hq (hA.live q z)
 have V7:Ep t M2 o rl W0 2:=hO.keep λc hc=>uw c (hO.live hc);have wm:∀x∈ops,kget kq x.nm≠none↔Undn hp_ x:=λx L=>by
  rw[ul];show"!Q"
  .rintro⟨y,hy,e,hu⟩;have:y=x:=b5r nn hy L e;rw[<-this];exact hu
  .exact λh=>⟨x,L,rfl,h⟩
 refine a7i (t:=t) (wd:=pc_) (e0:=ep) (ops:=ops) wm aY_ hq_ none none M2 rl W0 W' [] 2 _ (λx L=>⟨hp.mem_iff.mp L,hd x za!⟩) zb! zb_ V7 a9h hr kI_ cx ju λM' af y' z' g1 g2 g3=>?_;refine hR o M' af ho (g1.mono kI_) g2 λb O=>?_;obtain⟨e1,e2⟩:=fr b O;have e3:=uw b nK!;have g4:=g3 b zc! e2;exact⟨by rw[g4.1,e3,e1],g4.2⟩
def b6x(o:Op):∀{l:o_},fI Op.key l->∃u v,l=u++v/\nH Op.key o l=u++o::v/\(∀x∈u,Uv o.key x.key=false)/\∀x∈v,Uv o.key x.key=true
 |[],_=>⟨[],[],rfl,rfl,J!,J!⟩
 |y::l,h=>by
  unfold fI at h;rw[CY]at h;unfold nH;cases e:Uv o.key y.key with
  |true=>
   rw[j!];refine⟨[],y::l,rfl,rfl,J!,aU_⟩;rcases AE.mp L with rfl|L
   .exact e
   .exact Ry e (h.1 x L)
  |false=>
   rw[Z!];obtain⟨u,v,e1,e2,e3,e4⟩:=b6x o h.2;refine⟨y::u,v,by rw[e1];rfl,by rw[e2];rfl,aU_,e4⟩;rcases AE.mp L with rfl|L
   .exact e
   .exact e3 x L
def d6t(a b c d:Int):HT.lexLt ag! [c,d]=Uv Y! (c,d):=by
 rw[EJ,iZ,HT.lexLt_cons];by_cases h:a=c
 .rw[AQ h,HT.lexLt_cons];by_cases h':b=d
  .rw[AQ h'];simp[HT.lexLt_nil_nil];omega
  .rw[AI h',BM];show"#4";omega
 .rw[AI h,BM];show"#4";omega
nonrec def orV(l:o_)(o:Op):Nat->Bool
 |0=>false
 |j+1=>match l[j]? with|some f=>Uv o.key f.key|none=>false
nonrec def orT:Ag->Option Bool:=Gb t2_ t4!
def a7q{l:o_}{o:Op}{k:Nat}(hk:k<=P!):orT [K!,ze!,X_,kK!]=some (orV l o k):=by
 cases k with
 |zero=>simp[orT,Gb,fT,f2,Aa,fC,Uw,Eo,orV]
 |succ j=>
  have hj:j<P!:=hk;have e1:l[j]?=some l[j]:=BB hj;have e2:Gf (l.map Op.v) pt_=some (cm_).v:=by
   show"#0";simp[hj]
  have e3:Wp 1 i8_ pu_=some (cm_).v:=by
   have:ze_ - 1=(j:Nat):=by omega
   simp[Wp,f2,Aa,fC,Gr,Eo,this,e2]
  have e4:Ar (cm_).v bv_=some (.int (cm_).tm):=by simp[Op.v,Ar,Gf,Ig]
  have e5:Ar (cm_).v G!=some (.int (cm_).h):=by simp[Op.v,Ar,Gf,Ig]
  have e6:Ar o.v bv_=some eo!:=by simp[Op.v,Ar,Gf,Ig]
  have e7:Ar o.v G!=some bE!:=by simp[Op.v,Ar,Gf,Ig]
  have e8:gtT (.tup [.int (cm_).tm,.int (cm_).h]) yt!=some (.bl (Uv o.key (cm_).key)):=by
   simp[gtT,rW,d6t,Op.key]
  have e9:Uw pu! G!=some E!:=by simp[Uw,Eo]
  have f3:Aa 3 pu_=some pu!:=rfl;have uv:Aa 2 pu_=some o.v:=rfl;simp only[orT,Gb,fT,f2,f3,fC,FE,e9,Bz,Ad,An,e3,e4,e5,uv,e6,e7,CF,AJ,EG,show(0+1+1:Nat)<=1000 by omega,e8,orV,e1]
def zM{o:Op}{u v:o_}(B:∀x∈u,Uv o.key x.key=false)(Y:∀x∈v,Uv o.key x.key=true)(R:q_)(hR:R (.nx kL_) M):
  ∀(m:Nat),m<=v.length->∃n,Ez (Gc orT) m5! n [K!,pv_,X_,some (.int px!)] M R
 |0,hm=>by
  refine fb!;have et:=a7q (x0:=x0) (o:=o) (l:=u++v) (k:=bW!) c_;have ef:orV bj_ o bW!=false:=by
   cases hu:bW! with
   |zero=>rfl
   |succ j=>
    have:bj_[j]?=some (u[j]' a!):=by rw[DC a!,BB a!]
    simp only[orV,this];exact B _ hA_
  rw[ef]at et;simp only[Ez,Gc,Nat.add_zero,et];exact hR
 |m+1,hm=>by
  obtain⟨n,hn⟩:=zM B Y R hR m a!;refine⟨n+1,?_⟩;have et:=a7q (x0:=x0) (o:=o) (l:=u++v) (k:=bW!+(m+1)) bJ!;have ef:orV bj_ o (bW!+(m+1))=true:=by
   show orV bj_ o (bW!+m+1)=true;have:bj_[bW!+m]?=some (v[m]' a!):=by rw[CD a!,show u.length+m - u.length=m by omega,BB a!]
   simp only[orV,this];exact Y _ hA_
  rw[ef]at et;have es:f2 Gr G_ t_ [K!,pv_,X_,some (.int px_)]=some (.int px!):=by
   have:px_ - 1=px!:=by omega
   show Gr (.int px_) aS_=_;simp only[Gr,Eo,this]
  simp only[Ez,Gc,et,CF,Az,wl,es];exact hn
nonrec def orB:WS:=Ao t2! (Ao (Io (Gc orT) m5!) t4_)
def a7r:∀(os:o_) (x0:D) (y z:ad_) (acc:o_) (R:q_),fI Op.key acc->((acc++os).map Op.key).Nodup->co!+aQ!<1000->
  (∀de y' z',fI Op.key de->de.Perm (acc++os)->R (.nx [K!,some (.lst (de.map Op.v)),y',z']) M)->Kf a2_ F! orB ap_ [K!,fC!,y,z] M R
 |[],x0,y,z,acc,R,hs,nd,hl,hR=>⟨trivial,hR acc y z hs c_⟩
 |o::os,x0,y,z,acc,R,hs,nd,hl,hR=>by
  refine aO_;show orB kN! M _;show Ao (Az 3 _) _ kN! M _;obtain⟨u,v,e1,e2,e3,e4⟩:=b6x o hs;simp only[AJ]at hl;have el:cI md_ kN!=some py_:=by
   have:f1 Dh c4! kN!=some py_:=by
    show Dh [.lst zh!]=_;simp[Dh]
   unfold cI;rw[this];rfl
  simp only[Ao,Az,wl,el];show Io _ _ [K!,fC!,X_,some py_] M _;have ak:co!=bW!+v.length:=by rw[e1,AT]
  rw[ak,e1];refine zM e3 e4 _ ?_ v.length x_;have ei:b3k 1 G_ w_ kL_=some (.nx [K!,some (.lst ((kN_).map Op.v)),X_,some pw_]):=by
   have:(bj_).length<big:=by unfold big;rw[AT];omega
   have e3:Aa 3 kL_=some pw_:=rfl;have e2:Aa 2 kL_=some o.v:=rfl;unfold b3k;rw[e3,e2];show(if 0<=(pw!:Int)/\(pw!:Int).toNat<=(pv!).length/\(pv!).length<big then _ else none)=_;rw[AQ ⟨r!,J!,by rw[AU];exact this⟩];simp
  simp only[pZ,ei,Hi];have hp:(kN_).Perm (acc++[o]):=by rw[e1];simpa using(List.perm_middle (a:=o) (l₁:=u) (l₂:=v)).trans (List.perm_append_comm (l₁:=[o]) (l₂:=u++v))
  have bu:fI Op.key kN_:=by
   rw[<-e2];refine nG hs λy hy=>?_;rw[BJ,BP]at nd;exact λz=>nd.2.2 _ (AM hy) o.key c_ z.symm
  have fq:((u++o::v++os).map Op.key).Nodup:=by
   have:(u++o::v++os).Perm (acc++o::os):=by
    have:=hp.append_right os;show"#>"
   exact(this.map _).nodup_iff.mpr nd
  exact a7r os x0 _ _ kN_ R bu fq (by have:=hp.length_eq;simp at this;simp;omega) λde y' z' B Y=>hR de y' z' B (Y.trans (by have:=hp.append_right os;simpa using this))
def lT{ops:o_}(nd:ei_)(hl:ej!)(hR:R (.lst fs_) M):Hu ck! M R:=by
 refine m_;show Ao ge_ (Ao (Fn iG_ a2_ orB) bK!) pz! M _;have e1:Ss 1 An pz!=some (.nx zj!):=by simp[Ss,An]
 have e2:Iz n! zj!=some cM_:=rfl;simp only[Ao,pZ,e1,Hi,Fn,Qu,e2];refine a7r ops _ none none [] _ (jr_) (by simpa using nd) bJ! λde y' z' B Y=>?_;have:de=Pd ops:=aU B (Ro nd) (by simpa using Y.trans (by simpa using(Ev ops).symm));rw[this];exact hR
def a1a{neg:Bool}:Pz neg M T_ ou_=some (.bl (if neg then ! ov! else ov!)):=by show Pz.inS neg M T_ ou_=_;simp[Pz.inS,kO,Co,Eg,Oa,Hx,wI]
nonrec def luB:WS:=Bs t6_ t7! Eu
def d3n{o:Op}(ho:DG o.d):∃k r,o.d=.tup cK!/\(Mf o.d=none->hm_=false/\(k=="redo")=false)/\(∀u,Mf o.d=some u->r=[u.2]/\k=u.1/\yr!/\NameG u.2):=by
 rcases jF ho with⟨k,a,e,hk,iu,hu⟩|⟨k,r,e,B,Y,hu⟩
 .exact⟨k,[a],e,(λz=>by rw[z]at hu;cases hu),(λu ux=>by rw[hu]at ux;cases ux;exact⟨rfl,rfl,hk,iu⟩)⟩
 .exact⟨k,r,e,(λ_=>pA!),(λu ux=>by rw[hu]at ux;cases ux)⟩
def b6q{o:Op}(e:o.d=.tup cK!):o8!=some T_:=by
 have e3:Ar o.v aC_=some o.d:=by simp[Op.v,Ar,Gf,Ig]
 rw[e3,e];show Gf (D.str k::r) 0=_;show"!r"
def a6g{k:Str}(hk:yj!):kQ!=true:=by
 rcases hk with rfl|rfl
 .rw[yw!];rfl
 .rw[yw_];simp
def uT:∀(os:o_) (x1:D) (y:ad_) (acc:g!) (ep:Nat) (M:Mh) (R:q_),kx!->co!+aQ!<1000->M p=some o9!->
  (∀M' bd y',M' p=some (.dct (aK o8_ os acc) bd)->fv!->R yy_ M')->
  Kf a2_ F! luB ap_ o9_ M R
 |[],x1,y,acc,ep,M,R,_,_,hp,hR=>yz_
 |o::os,x1,y,acc,ep,M,R,hd,hl,hp,hR=>by
  refine aO_;show luB bS! M _;show Bs _ _ _ bS! M _;have ho:=hd o AL;simp only[AJ]at hl;obtain⟨k,r,e,hn,hs⟩:=d3n ho;have i0:f2 Ar a3! C_ bS!=some T_:=b6q e;simp only[Bs,wT,w2,wl,i0,fC,a1a];cases hu:Mf o.d with
  |none=>
   obtain⟨B,Y⟩:=hn hu;have:kQ!=false:=by rw[zj_,zk_,B,Y];rfl
   rw[this];exact uT (p:=p) os x1 ek! acc ep M R fv_ a! hp yC!
  |some u=>
   obtain⟨g1,g2,hk,iu⟩:=hs u hu;rw[a6g hk];obtain⟨ka,kh⟩:=rD iu;have i1:f2 Ar a3! t_ bS!=some u.2:=by
    have e3:Ar o.v aC_=some o.d:=by simp[Op.v,Ar,Gf,Ig]
    show yA!;rw[e3,e,g1];show Gf [D.str k,u.2] 1=_;simp[Gf,Ig]
   have i2:f2 Cg gj_ iF! bS!=some fu!:=by
    show(f2 Ar a3! C_ bS!).bind (λx=>Cg x b2_)=_;rw[i0];exact Nd k _
   have gw:=Nm (y:=u.2) (v:=.bl hm_) hp kh dp_;have:=uT (p:=p) os x1 ek! zl! zl_ (Cb M p (.dct zl! zl_)) R fv_ (by have:=kput_len acc u.2 fu!;omega) mup_same (λM' bd y' B Y=>hR M' bd y' (by
    unfold aK;rw[hu];obtain⟨u1,u2⟩:=u;dsimp only at g2 B ⊢;rw[<-g2];exact B) λb O=>(Y b O).trans fw!)
   rw[gK_];simp only[Dz,wl,i1,i2,d3r,gw,Hi];exact this
def a4t{ops:o_}(nd:ei_)(hl:ej!)(hd:hp!)
  (hR:∀p M' ep,M p=none->M' p=some (.dct (aK o8_ aY_ []) ep)->fv!->R y! M'):Sg ck! M R:=by
 refine m_;show Ao iF_ (Ao (Fn eY! a2_ luB) bK!) yE! M _;intro p hp;have br:(aY_).Perm ops:=Ev ops;show Ao (Fn eY! _ _) _ ky_ cO! _;have hc:∀(K:v_),Hu ck! cO! K->Ba 1 Hu a3_ ky_ cO! K:=λK h=>ca_;simp only[Ao,Fn,Et];refine hc _ (lT nd hl ?_);exact uT (p:=p) aY_ hq_ none [] 0 cO! _ yE_ yF! mup_same yF_
end
nonrec def Cs(q:D×D):D:=.tup [q.1,q.2]
nonrec def Ci(q:e9!):D:=.tup zm!
inductive LR
 |w|wt|wn|q (x:D)|oth
nonrec def k3(rows wt wn:D):List aA!:=[(.str "rows",rows),(.str "texts",wt),(.str "numbers",wn)]
section
variable{a b c v:D}
def c4d:¬(D.str dg_=D.str d2!):=λz=>absurd pA_ o!
def c4e:¬(D.str dg_=D.str fa!):=λz=>absurd pA_ o!
def c3v:¬(D.str d2!=D.str fa!):=λz=>absurd pA_ o!
def k3r:kget hB_ eY_=some a:=by show bE_=_;rw[j!]
def k3t:kget hB_ na!=some b:=by show zm_=_;rw[AI c4d,j!]
def k3n:kget hB_ nd!=some c:=by show(if _ then _ else zm_)=_;rw[AI c4e,AI c3v,j!]
def k3p:Bi hB_ eY_ v=k3 v b c:=by show bE_=_;rw[j!];rfl
end
def Wf{g:D->D}:∀{its:b_} {x:D},kget kQ_ x=if x∈its then some (g x)else none
 |[],x=>by simp[kget]
 |i::its,x=>by
  rw[AH];unfold kget;by_cases e:i=x
  .subst e;simp
  .rw[AI e,Wf];simp[AK e]
def a0h{g:D->D}{v:D}:∀{its:b_},its.Nodup->x∈its->Bi kQ_ x v=its.map λi=>(i,if i=x then v else g i)
 |[],_,h=>by cases h
 |i::its,nd,h=>by
  rw[AX]at nd;rw[AH,AH];unfold Bi;by_cases e:i=x
  .subst e;rw[j!];simp only[CF];congr 1;apply CJ;intro j hj;rw[AI λz:j=i=>nd.1 (z▸hj)]
  .rw[AI e];simp only[e,BW];rw[a0h nd.2 ((AE.mp h).resolve_left (AK e))]
def rL{g:D->D}{v:D}{its:b_}(h:x∉its):Bi kQ_ x v=kQ_++[(x,v)]:=Pw (by rw[CB];simpa using h)
structure a5z(M:Mh)(w:Addr)(rl:cN_)(W:OW)(wt wn:Addr)(qa:D->Addr):Prop where
 mw:∃e,M w=some (.dct hC! e)
 mt:∃e,M wt=some (.dct (W.its.map λi=>(i,.lst kS_)) e)
 mn:∃e,M wn=some (.dct (W.its.map λi=>(i,.fn fD_)) e)
 mq:∀i∈W.its,M fD_=some (.lst jF_)/\rl fD_=.q i
 rw_:rl w=.w
 rt:rl wt=.wt
 rn:rl wn=.wn
 live:∀b,rl b≠.oth->M b≠none
nonrec def Dq(M:Mh)(w:Addr)(rl:cN_)(W:OW):Prop:=∃wt wn qa,a5z M w rl W wt wn qa
nonrec def xH(M:Mh)(rl:cN_)(M':Mh)(af:cN_):Prop:=∀b,M b≠none->rl b=.oth->M' b=M b/\af b=.oth
def xH.refl{M:Mh}{rl:cN_}:xH M rl M rl:=λb _ h=>ca_
def xH.trans{M M1 M2:Mh}{rl gg ua:cN_}(B:xH M rl M1 gg)(Y:xH M1 gg M2 ua):xH M rl M2 ua:=λb O hr=>by
 show"!x"
section
variable{M:Mh}{R:D->Mh->Prop}{w:Addr}{rl:Addr->LR}{W:OW}{ρ:Ag}
def Tj{ep:Nat}(h:bQ!)(hk:ck_):Ec M y! y=kget kvs y:=by simp[Ec,h,hk]
def ixw{ep:Nat}{v:D}(h0:Aa 0 ρ=some y!)(h:bQ!)(hv:kget kvs ba!=some v)(K:v_):w2 Ec i! (wl (fC ba!)) ρ M K=K v M:=by have:Ec M y! ba!=some v:=(Tj (k:=some (.inl (.inr s))) h rfl).trans hv;simp only[w2,wl,h0,fC,this]
def vT{q:D×D}:Ar ep_ G!=some q.1:=by simp[Cs,Ar,Gf,Ig]
def vS{q:D×D}:Ar ep_ aS_=some q.2:=by simp[Cs,Ar,Gf,Ig]
def iQ{W:OW}(w:El W):∀q∈W.rows,Oo q.1/\Sd q.2/\Kh W q.2:=λq hq=>⟨w.nm _ ((w.ri q.1).mp (AM hq)),vW w (w.rp q.1 q.2 hq),w.rp q.1 q.2 hq⟩
def xG(h:U!)(wi:El W)(L:Sd x)(hl:ax!<5000)(hR:vH_):Qr [bq_,x] M R:=by
 show"!}";obtain⟨e,hw⟩:=hA.mw;refine m_;show Cn pB_ kT_ M _;simp only[Cn,Dx,Et,ixw (ρ:=kT_) rfl hw k3r];refine dt_;refine Fx (λd=>match d with|.tup [_,p]=>decide (p=x)|_=>false) (λd=>match d with|.tup [i,_]=>i|_=>.non) trivial _ _ bR_ ?_
 .show"!H";obtain⟨B,Y,_⟩:=iQ wi q hq;refine zo!
  .have e1:fT uL_ eq!=some zp!:=by
    have:f2 Cg dK! s_ eq!=some (.bl zp!):=by
     show(Ar ep_ aS_).bind zq!=_;rw[vS];exact cL Y L
    show"!L"
   simp only[Gc,e1];exact hK
  .have e1:f2 Ar n! C_ eq!=some q.1:=vT;simp only[wl,e1];exact hK
 .have e2:(((kR_).filter λd=>match d with|.tup [_,p]=>decide (p=x)|_=>false).map λd=>match d with|.tup [i,_]=>i|_=>.non)=chl W.rows x:=by
   unfold chl;rw[GG,CB];rfl
  rw[e2];exact hR
end
def b1n(ha:Sd a)(O:Sd b)(hc:Sd c)(hd:Sd d):Cg hD_ (.tup [c,d])=some (.bl (decide (a=c/\b=d))):=by
 unfold Cg;have d1:=aB ha;have d2:=aB O;have e:Ir hD_ (.tup [c,d])=decide (a=c/\b=d):=by
  simp only[Ir,Qi,Wq ha hc,Wq O hd,Bool.and_true];by_cases B:a=c<;>by_cases Y:b=d<;>simp[B,Y]
 rw[e];simp only[Co,Eg,Ju ha,Ju O,Ju hc,Ju hd,Oa,Hx,Bool.and_true,Bool.true_and];rw[d3!]
def b8b{xs:b_}{k:Nat}(h:k<=i_):Cy I! none kU!=some (.lst (xs.take k)):=by
 have e:HT.sIx xs.length xs.length kU!=k:=by rw[HT.sIx_nat];omega
 simp only[Cy];congr 2;unfold Ge;rw[e,HT.sIx_none];simp
def a1w{xs:b_}{k:Nat}(h:k<=i_):Cy I! kU! none=some (.lst (xs.drop k)):=by
 simp only[Cy];congr 2;have e:HT.sIx xs.length 0 kU!=k:=by rw[HT.sIx_nat];omega
 have e2:HT.sIx xs.length xs.length none=i_:=rfl;unfold Ge;rw[e,e2,IB c_]
section
variable{M:Mh}{R:D->Mh->Prop}{w:Addr}{rl:Addr->LR}{W:OW}{ρ:Ag}
nonrec def hgT:Ag->Option Bool:=Gb ua! ub!
def c2i{rs:g!}{k:Nat}(hk:k<=aq_)(hl:aq_<5000)(ja:zr!)(hp:Sd p):hgT br!=some zr_:=by
 have el:f1 Dh gh_ br!=some kV_:=by
  show zs_;simp[Dh]
 have e5:Aa 5 br!=some fB_:=rfl;have e2:Aa 2 br!=some p:=rfl;by_cases c:k<aq_
 .have e1:rs[k]?=some rs[k]:=BB c;have ea:Gf eq_ aZ!=some kW!:=by
   show"#0";simp[c]
  have e3:f2 Ar O_ B! br!=some kW!:=ea;have e4:Rz fB_ kV_=some E!:=by simp[Rz,Eo];exact c
  have e6:Hw (dx_).2 p=some zt!:=uN (ja _ hA_).2 hp;have e7:f2 Hw ua_ w_ br!=some zt!:=by
   show((f2 Ar O_ B! br!).bind λx=>Ar x aS_).bind (λz=>Hw z p)=_;rw[e3];show(Ar kW! aS_).bind _=_;rw[vS];exact e6
  have e8:f2 Rz B! eZ! br!=some E!:=by
   show zt_;rw[el];exact e4
  simp only[hgT,Gb,fT,e8,e7,FE,CF,e1]
 .have e1:rs[k]?=none:=CL a!;have e4:Rz fB_ kV_=some au_:=by simp[Rz,Eo];omega
  have e8:f2 Rz B! eZ! br!=some au_:=by
   show zt_;rw[el];exact e4
  simp only[hgT,Gb,fT,e8,FE,e1];rfl
def b8e{rs:g!}{k:Nat}(hk:k<aq_)(h:chl pD! p=[])(hp:(dx_).2≠p):chl (rs.take Q!) p=[]:=by rw[GJ hk,Iw,h];show chl [((dx_).1,(dx_).2)] p=[];rw[gS hp];rfl
def a1c{rs:g!}(hl:aq_<5000)(ja:zr!)(hp:Sd p)(R:q_)(hR:∀k:Nat,k<=aq_->chl pD! p=[]->R (.nx br!) M):
  ∀(m k:Nat),aq_ - k=m->k<=aq_->chl pD! p=[]->∃n,Ez (Gc hgT) ub_ n br! M R
 |m,k,hm,hk,hc=>by
  have et:=c2i (x0:=x0) (i:=i) (s:=s) (y:=y) hk hl ja hp;by_cases c:k<aq_/\(rs[k]?.map A_)≠some p
  .obtain⟨c1,c2⟩:=c;have e1:rs[k]?=some rs[k]:=BB c1;rw[e1]at et c2;have c3:(dx_).2≠p:=λz=>c2 (by rw[<-z];rfl);rw[show(match(some rs[k]:Option aA!)with|some q=>!decide (q.2=p)|none=>false)=true by simp[c3]]at et;cases m with
   |zero=>omega
   |succ m=>
    obtain⟨n,hn⟩:=a1c hl ja hp R hR m Q! a! a! (b8e c1 hc c3);refine⟨n+1,?_⟩;have es:f2 Bb B! t_ br!=some kY!:=by
     show pE_;simp[Bb]
    simp only[Ez,Gc,et,CF,Az,wl,es];exact hn
  .refine fb!;have ef:zr_=false:=by
    cases e:rs[k]? with
    |none=>rfl
    |some q=>
     have c1:k<aq_:=(BA.mp e).1;have:q.2=p:=by
      by_cases z:q.2=p
      .exact z
      .exact absurd ⟨c1,by rw[e];simp[z]⟩ c
     simp[this]
   rw[ef]at et;simp only[Ez,Gc,et];exact hR k hk hc
nonrec def hgB:WS:=Bs ue_ uf! Eu
nonrec def AtP(rs:g!)(s p:D)(k0 k at_:Nat):Prop:=(at_=k0/\∀j<k,rs[j]?≠some cD_)\/∃j<k,rs[j]?=some cD_/\at_=j+1
def a5d{rs:g!}{k0:Nat}(hl:aq_<5000)(ja:∀q∈rs,Sd q.1/\Sd q.2/\q.1≠.non)(hp:Sd p)(hs:Sd s)(R:q_)(hR:∀(a:Nat) y,AtP rs s p k0 rs.length a->R (.nx zv_) M):
  ∀(m k a:Nat) (y:ad_),aq_ - k=m->k<=aq_->AtP rs s p k0 k a->Kf cz! F! hgB zx! zv_ M R
 |0,k,a,y,hm,hk,ha=>⟨trivial,hR a y (by rw[show rs.length=k by omega];exact ha)⟩
 |m+1,k,a,y,hm,hk,ha=>by
  have c1:k<aq_:=by omega
  rw[List.range'_succ,AH];refine aO_;show hgB dy! M _;show Bs ho_ _ _ dy! M _;have e1:rs[k]?=some rs[k]:=BB c1;obtain⟨q1,q2,q3⟩:=ja rs[k] hA_;have ea:f2 Ar O_ bh! dy!=some kW!:=by
   show Gf eq_ aZ!=_;show"#0";simp[c1]
  have et:f2 Cg ud! ud_ dy!=some (.bl (decide ((dx_).1=s/\(dx_).2=p))):=by
   show(f2 Ar O_ bh! dy!).bind (λz=>Cg z (.tup [s,p]))=_;rw[ea];exact b1n q1 q2 hs hp
  have en:f2 Bg G_ cf! dy!=some (.bl (!Fb s)):=rfl;have cond:Gb uc! ue! dy!=some (decide (rs[k]=cD_)):=by
   simp only[Gb,fT,en,et,FE];by_cases z:s=.non
   .rw[show Fb s=true from rT.mpr z];have:¬rs[k]=cD_:=λy=>q3 wB_;simp[this]
   .rw[Sa z];simp only[HK,CF];congr 1;rw[decide_eq_decide];exact⟨λy=>Prod.ext y.1 y.2,λy=>by rw[y];exact bJ_⟩
  have es:f2 Bb bh! t_ dy!=some kY!:=by
   show pE_;simp[Bb]
  by_cases z:rs[k]=cD_
  .refine zz!;simp only[Az,wl,es];exact a5d hl ja hp hs R hR m Q! Q! _ a! a! (.inr ⟨k,r!,by rw[e1,z],rfl⟩)
  .refine Qh zA! ?_;refine a5d hl ja hp hs R hR m Q! a _ a! a! ?_;rcases ha with⟨B,Y⟩|⟨j,B,Y,h3⟩
   .refine .inl ⟨B,j1_⟩;by_cases y:j=k
    .rw[y,e1];exact λx=>z (BZ x)
    .exact Y j a!
   .exact zA_
def a5z.setRows{qa:D->Addr}{rows':g!}{e:Nat}(hA:zB!):a5z (Cb M w pG!) w rl {W with rows:=rows'} wt wn qa/\xH M rl (Cb M w pG!) rl:=by
 have aw:∀b,rl b≠.w->Cb M w pG! b=M b:=λb O=>mup_ne λz=>O (by rw[z];exact hA.rw_);refine⟨⟨jI!,?_,?_,fu_,hA.rw_,hA.rt,hA.rn,bg_⟩,zE!⟩
 .rw[aw wt pH!];exact hA.mt
 .rw[pI!];exact hA.mn
 .show"#;"
 .by_cases z:b=w
  .rw[z,mup_same];simp
  .rw[jN_];show"#2"
def a2q(h:U!)(ja:∀q∈W.rows,Sd q.1/\Sd q.2/\q.1≠.non)(hi:Sd i)(hp:Sd p)(hs:Sd s)(hl:ax!<4000)
  (hR:∀M' rows',gW W.rows i p s rows'->Dq M' w rl {W with rows:=rows'}->xH M rl M' rl->R .non M'):Lz [bq_,i,p,s] M R:=by
 show"!}";obtain⟨e,hw⟩:=hA.mw;refine m_;show Ao (Az 4 pB_) _ zG! M _;simp only[Ao,Az,Dx,Et,ixw (ρ:=zG!) rfl hw k3r];refine dt_;have sub:∀q∈wo W.rows i,q∈W.rows:=λq hq=>(nD!).1;have lw:(j1!).length<=ax!:=FO _ _;refine Fx (λd=>match d with|.tup [a,_]=>!decide (a=i)|_=>false) id trivial _ _ bR_ ?_
 .obtain⟨q,hq,rfl⟩:=AZ.mp hd;obtain⟨B,_,_⟩:=ja q hq;refine⟨pJ!,rfl,hk_,yo!⟩;have e1:fT t8_ pJ!=some zH!:=by
   have:f2 Hw a1_ s_ pJ!=some (.bl zH!):=by
    show(Ar ep_ G!).bind (λz=>Hw z i)=_;rw[vT];exact uN B hi
   show"!L"
  simp only[Gc,e1];exact hK
 have e2:((kR_).filter λd=>match d with|.tup [a,_]=>!decide (a=i)|_=>false).map id=(j1!).map Cs:=by
  rw[List.map_id,GG];unfold wo;congr 1;apply EZ;intro q _;simp[Cs]
 rw[e2];generalize PQ:wo W.rows i=rs at *;have KS:∀q∈rs,Sd q.1/\Sd q.2/\q.1≠.non:=λq hq=>ja q (sub q hq);show Io (Gc hgT) _ [w!,I_,cc_,cI_,fE!,some G!,none] M _;refine a1c (M:=M) a! (λq hq=>⟨(KS q hq).1,(KS q hq).2.1⟩) hp _ (λk0 X9 V8=>?_) rs.length 0 a! a! (by rw[List.take_zero];rfl);show Fn (Qu (Kd eZ!)) cz! hgB pJ_ M _;have hr:Kd eZ! pJ_=some ((List.range' 0 aq_).map λj=>D.int pt_):=by
  have:f1 Dh gh_ pJ_=some kV_:=by
   show zs_;simp[Dh]
  unfold Kd;rw[this];show(if -1000<=pK!/\pK!<=100000 then some (Hh (pK!).toNat)else none)=_;rw[Y_];simp[Hh,List.range_eq_range']
 simp only[Fn,Qu,hr,Hi];refine a5d (M:=M) a! KS hp hs _ (λa y ha=>?_) rs.length 0 k0 none a! a! zJ!;have uy:a<=aq_:=by
  rcases ha with⟨B,_⟩|⟨j,B,_,h3⟩<;>omega
 have ev:f2 Bb ug! ug_ fF!=some kZ!:=by
  have s1:Je O_ Bw e0! fF!=some pK_:=b8b kZ_;have s2:Je O_ e0! Bw fF!=some zK_:=a1w kZ_;have s3:Hq uf_ fF!=some pL!:=rfl;have a1:Bb pK_ pL!=some zL_:=by
   show hd!;rw[k0!]
  have a2:Bb zL_ zK_=some kZ!:=by
   show hd!;rw[k0!];simp
  show((Je O_ Bw e0! _).bind λx=>(Hq _ _).bind λz=>Bb x z).bind (λx=>(Je O_ e0! Bw _).bind λz=>Bb x z)=_;rw[s1,s3,s2];show(Bb pK_ pL!).bind (λx=>Bb x _)=_;rw[a1];exact a2
 have gw:Ur M cn! eY_ kZ!=some (Cb M w (.dct (k3 kZ! kS! ep!) (Lk hC! eY_ e))):=by
  rw[Nm (k:=some (.inl (.inr "rows"))) hw rfl (by show 3<big;decide),k3p]
 have f0:Aa 0 fF!=some cn!:=rfl;obtain⟨g1,g2⟩:=hA.setRows (rows':=rs.take a++bA_::rs.drop a) (e:=Lk hC! eY_ e);have fin:=hR _ zJ_ ⟨rs.take a,rs.drop a,by rw[PQ,List.take_append_drop],rfl,?_⟩ zM! g2
 .show Dz i! i9_ (wl _) fF! M _;simp only[Dz,wl,ev,f0,fC,gw,Hi];exact fin
 .rw[PQ];rcases ha with⟨B,Y⟩|⟨j,B,Y,h3⟩
  .refine .inl ⟨cN!,by rw[B];exact V8⟩;obtain⟨j,hj⟩:=FL.mp on_;exact Y j (BA.mp hj).1 hj
  .refine .inr ⟨rs.take j,?_⟩;have hj:j<aq_:=(BA.mp Y).1;rw[h3,GJ hj,(BA.mp Y).2]
def a5g{rows:g!}(nd:cL_):(rows.filter λq=>decide fF_)=match rows.find? zM_ with|some q=>[q]|none=>[]:=by
 induction rows with
 |nil=>rfl
 |cons a r ih=>
  rw[AH,AX]at nd;by_cases e:a.1=x
  .rw[CM gT!,List.find?_cons_of_pos gT!];have:r.filter zM_=[]:=by
    rw[List.filter_eq_nil_iff];intro q hq;simp only[BM];exact λz=>nd.1 (by rw[e,<-z];exact AM hq)
   rw[this]
  .rw[CN gT!,List.find?_cons_of_neg gT!,ih nd.2]
def c3n{W:OW}(wi:El W)(h:a8_∈W.rows):pM!=[a8_]:=by
 rw[a5g wi.rnd];cases e:W.rows.find? λq=>decide fF_ with
 |none=>have:=List.find?_eq_none.mp e a8_ h;simp at this
 |some q=>
  have B:=List.find?_some e;have Y:=List.mem_of_find?_eq_some e;simp at B;have:q.2=p:=Qd wi.rnd (by rw[<-B];exact Y) h;obtain⟨a,b⟩:=q;dsimp only at B this ⊢;rw[B,this]
def c9r{W:OW}(wi:El W)(h:∀p,a8_∉W.rows):pM!=[]:=by rw[List.filter_eq_nil_iff];rintro⟨a,b⟩ hq;simp only[BM];exact λz=>h b vw!
nonrec def liB:WS:=Ao ui!
 (Ao ui_
 (Az 1 eQ_))
def rK(h:U!)(wi:El W)(hl:ax!<5000)(hi:Oo i){rk:D->Nat}(gu:vM_):∀(n:Nat) (x:D) (y:ad_),rk x<n->Kh W x->∀(R':q_),(Wn W.rows i x->∀y',R' (.nx [w!,I_,I_,y']) M)->(¬Wn W.rows i x->R' (.rt au_) M)->
   ∃m,Ez jb_ liB m fG! M R'
 |0,x,y,hn,_,_,_,_=>by omega
 |n+1,x,y,hn,L,R',r1,r2=>by
  obtain⟨wt,wn,qa,hA⟩:=id h;obtain⟨e0,hw⟩:=hA.mw;have sx:=vW wi L;have et:fT pj! fG!=some pM_:=by
   have:f2 Hw s_ w_ fG!=some (.bl pM_):=uN sx hi.sd;show"!L"
  by_cases e:x=i
  .subst e;refine fb!;rw[show(!decide (x=x))=false by simp]at et;simp only[Ez,Gc,et];exact r1 .here y
  .rw[show pM_=true by simp[e]]at et;have body:∀(K:q_),(vP_->K (.rt au_) M)->(∀p,a8_∈W.rows->K (.nx [w!,cc_,I_,some pN!]) M)->liB fG! M K:=λK g1 g2=>by
    show Ao (Az 3 pB_) _ fG! M _;simp only[Ao,Az,Dx,Et,ixw (ρ:=fG!) rfl hw k3r];refine dt_;refine Fx (λd=>match d with|.tup [a,_]=>decide (a=x)|_=>false) (λd=>match d with|.tup [_,p]=>p|_=>.non) trivial _ _ bR_ ?_
    .show"!H";obtain⟨B,_,_⟩:=iQ wi q hq;refine zo!
     .have e1:fT uh_ eq!=some (decide fF_):=by
       have:f2 Cg a1_ s_ eq!=some (.bl (decide fF_)):=by
        show(Ar ep_ G!).bind zq!=_;rw[vT];exact cL B.sd sx
       show"!L"
      simp only[Gc,e1];exact hK
     .have e1:f2 Ar n! t_ eq!=some q.2:=vS;simp only[wl,e1];exact hK
    .have e2:(((kR_).filter λd=>match d with|.tup [a,_]=>decide (a=x)|_=>false).map λd=>match d with|.tup [_,p]=>p|_=>.non)=(pM!).map A_:=by
      rw[GG,CB];rfl
     rw[e2];by_cases c:∃p,a8_∈W.rows
     .obtain⟨p,hp⟩:=c;rw[c3n wi hp];show Bs ho_ _ _ pN_ M _;refine Qh rfl ?_;show Az 1 eQ_ pN_ M _;have e3:f2 Ar G_ C_ pN_=some p:=rfl;simp only[Az,wl,e3];exact g2 p hp
     .have c':∀p,a8_∉W.rows:=λp z=>c ⟨p,z⟩;rw[c9r wi c'];show Bs ho_ _ _ [w!,ay!,I_,eo_] M _;refine ifT rfl ?_;exact g1 c'
   rcases L with L|L
   .obtain⟨p,hp⟩:=a3p wi L;have q:=jM wi.rnd hp e;have:=gu _ _ hp;have key:∀y',∃m,Ez jb_ liB m [w!,cc_,I_,y'] M R':=λy'=>rK h wi hl hi gu n p y' a! (wi.rp _ _ hp) R' vQ! (λz=>r2 λv=>z (q.mp v));obtain⟨m,hm⟩:=key (some pN!);refine⟨m+1,?_⟩;simp only[Ez,Gc,et,CF];exact body _ (λnt=>absurd hp (nt p)) λp' br=>by rw[Qd wi.rnd br hp];exact hm
   .have nt:∀p,a8_∉W.rows:=by
     rcases L with rfl|rfl
     .exact eI wi (a6u wi)
     .exact eI wi (b8m wi)
    refine fb!;simp only[Ez,Gc,et,CF];exact body _ (λ_=>r2 (b2g nt e)) (λp hp=>absurd hp (nt p))
def b8u(h:U!)(wi:El W)(hl:ax!<5000)(L:dh!)(hi:Oo i)(hR:∀b:Bool,(b=true↔Wn W.rows i x)->R bH_ M):Xr [bq_,x,i] M R:=by obtain⟨rk,gu⟩:=wi.rk;refine m_;show Ao (Io jb_ liB) (Cn iD!) [w!,ay!,I_,none] M _;exact rK h wi hl hi gu (rk x+1) x none a! L _ (λz y'=>hR true f0!) (λz=>hR false f0!)
def c2g{neg:Bool}{ep:Nat}(h:bQ!)(hk:ck_):Pz neg M y y!=some (.bl (if neg then !(hF!).isSome else(hF!).isSome)):=by simp[Pz,h,hk]
def c2e(L:Sd x)(ha:Sd a)(O:Sd b):Pz false M x hD_=some (.bl (decide (x=a\/x=b))):=by
 have d1:=aB ha;have d2:=aB O;have e:((ag!).any λd=>Ir d x)=decide (x=a\/x=b):=by
  simp only[ES,List.any_nil,Bool.or_false,Wq ha L,Wq O L];by_cases B:a=x<;>by_cases Y:b=x<;>simp[B,Y,AK]<;>first|exact .inl B.symm|exact .inr Y.symm|exact⟨λz=>B z.symm,λz=>Y z.symm⟩|skip
 show Pz.inS false M x hD_=_;unfold Pz.inS;show(if Co x&&Eg ag!&&decide (Hx ag!<=40)then some (D.bl (if false=true then _ else[a,b].any λd=>Ir d x))else none)=_;rw[AQ (by simp[Ju L,Eg,Ju ha,Ju O,Hx];omega),e];rfl
def d5h{g:bV!}{fx:d_}{fb:WE}(L:fx ρ=some x)(K:v_):w2 g k2! fb ρ M K=fb ρ M λy M2=>match g M2 x y with|some d=>K d M2|none=>False:=by simp only[w2,wl,L]<;>rfl
def b2u{W:OW}:(kget er_ x).isSome=decide gN!:=by rw[Wf];by_cases h:x∈W.its<;>simp[h]
def cB{fx:d_}(h:U!)(h0:hF_)(L:fx ρ=some x)(hk:fy!)(K:v_):w2 bw! k2! bj! ρ M K=K (.bl (decide gN!)) M:=by obtain⟨wt,wn,qa,hA⟩:=h;obtain⟨e0,hw⟩:=hA.mw;obtain⟨e1,ht⟩:=hA.mt;have hi:=ixw (M:=M) (ρ:=ρ) (s:=hv!) h0 hw k3t;have e:=c2g (neg:=false) ht hk;rw[show(if false=true then _ else(kget er_ x).isSome)=decide gN! from b2u]at e;rw[d5h L,hi,e]
def a2p(h:U!)(wi:El W)(hl:ax!<4000)(hi:Sd i)(L:Sd x)(hs:Sd s)(cn:fb_)(gf:nN_)
  (hR:∀M' W',(d3_->∃rows',gW W.rows i x s rows'/\W'={W with rows:=rows'})->(¬d3_->W'=W)->Dq M' w rl W'->xH M rl M' rl->R .non M'):Qq [bq_,i,x,s] M R:=by
 refine m_;show Bs (Me (wT _) (wOr (wT _) (wT _))) _ Eu dy_ M _;have g1:=cB (ρ:=dy_) (fx:=Aa 1) h rfl rfl cn;have g2:=cB (ρ:=dy_) (fx:=Aa 2) h rfl rfl gf;have g3:∀K:D->Mh->Prop,w2 bw! M! uk! dy_ M K=K (.bl (decide (x=root\/x=Di))) M:=λK=>by
  have uv:Aa 2 dy_=some x:=rfl;have:=c2e (M:=M) L (Pj "root") (Pj "bin");simp only[w2,wl,uv,fC,this]
 have no:(¬d3_)->R .non M:=λc=>hR M W (λz=>absurd z c) (λ_=>rfl) h .refl;have PR:i∈W.its->Kh W x->Bs ul! um! Eu dy_ M gP_:=λc1 c2=>by
  have hc:∀(K:v_),Xr [bq_,x,i] M K->Ba 3 Xr (Ac i! iy!) dy_ M K:=λK h=>ca_;unfold Bs Uy wT;refine hc _ (b8u h wi a! c2 (wi.nm i c1) λb O=>?_);cases b with
  |true=>exact no λz=>z.2.2 (O.mp rfl)
  |false=>
   have nw:¬Wn W.rows i x:=λz=>by have:=O.mpr z;cases this
   have jf:∀(K:v_),Lz [bq_,i,x,s] M K->Ba 4 Lz ul_ dy_ M K:=λK h=>ca_;simp only[HK,CF];refine Nu (jf _ (a2q h dj! hi L hs hl λM' rows' hg hL hF=>?_))
   .obtain⟨B,Y,_⟩:=iQ wi q hq;exact⟨B.sd,Y,B.nn.1⟩
   .exact hR M' _ (λ_=>⟨rows',hg,rfl⟩) (λz=>absurd ⟨c1,c2,nw⟩ z) hL hF
 simp only[Bs,Me,wOr,wT,g1];by_cases c1:i∈W.its
 .rw[BK c1];simp only[CF,g2];by_cases c2:x∈W.its
  .rw[BK c2];exact PR c1 (.inl c2)
  .rw[AW c2];simp only[BI,BW,g3];by_cases c3:x=root\/x=Di
   .rw[BK c3];exact PR c1 (.inr c3)
   .rw[AW c3];exact no λz=>z.2.1.elim c2 c3
 .rw[AW c1];exact no λz=>c1 z.1
end
nonrec def b7s:WS:=(Ao un_
 (Ao nc_
 (Ao ne!
 nf!)))
nonrec def b7q:WS:=ur_
nonrec def wrF:WS:=uw_
nonrec def wN:WS:=(Ao je_
 (Ao (Az 6 aL_)
 (Ao (Fn nh! db_ wrF)
 (Ao uy_
 uA!))))
nonrec def b7u:WS:=(Ao uE!
 (Ao je_
 uF_))
abbrev knd(k:Str):Ag->Option Bool:=fT (f2 Cg bx_ (fC T_))
abbrev a0z:WT:=wT gB!
def c0i:b3y=Ao nb_ (Ao nc!
 (Bs zR! b7s (Bs zR_ ng! (Bs zS_ ng_
  (Bs zT! b7q zU!))))):=rfl
section
variable{M:Mh}{R:D->Mh->Prop}{w:Addr}{rl:Addr->LR}{W:OW}{ρ:Ag}{pre:List D}
def b6h(h:pQ!):knd k' ρ=some kq!:=by
 have e:Ar eh_ G!=some T_:=by
  show oW_;show"!r"
 have:f2 Cg bx_ (fC oW!) ρ=some (.bl kq!):=by
  show((k2_).bind λx=>Ar x G!).bind (λx=>Cg x oW!)=_;rw[h];show(Ar eh_ G!).bind _=_;rw[e];exact Nd k k'
 unfold knd fT;rw[this];rfl
def p1(h:zV_):f2 Ar w_ t_ ρ=some a:=by show(k2_).bind (λx=>Ar x aS_)=_;rw[h];exact ix1
def p2(h:Aa 2 ρ=some oX_):f2 Ar w_ V! ρ=some b:=by show(k2_).bind (λx=>Ar x bv_)=_;rw[h];exact ix2
def p3(h:Aa 2 ρ=some oY!):f2 Ar w_ av! ρ=some c:=by show(k2_).bind (λx=>Ar x aC_)=_;rw[h];exact ix3
def anF{ft:ag_}{fu:WT}{q1 q2:WS}{R:q_}(h:ya_)(k:hk!):Bs zW! q1 q2 ρ M R:=by simp only[Bs,Me,Gc,h];exact k
def anT{ft:ag_}{fu:WT}{q1 q2:WS}{R:q_}{b:Bool}(h:ya!)(hu:∀K:Bool->Mh->Prop,K b M->fu ρ M K)(k1:zW_)(k2:zX!):Bs zW! q1 q2 ρ M R:=by
 simp only[Bs,Me,Gc,h,CF];refine hu _ ?_;cases b with
 |true=>rw[j!];exact k1 rfl
 |false=>rw[Z!];exact k2 rfl
def vY(h:U!)(h0:hF_)(Y:zV_)(hk:dn!)(K:fA!)(hK:K (decide (a∈W.its)) M):a0z ρ M K:=by unfold a0z wT;rw[cB h h0 (p1 Y) hk];exact hK
def Fz.sd(h:Fz x):Sd x:=by
 rcases h with rfl|rfl|⟨a,b,rfl,_⟩
 .exact Pj _
 .exact Pj _
 .exact .inr nK_
def Ye.sd(h:Ye x):Sd x:=by
 rcases h with rfl|⟨a,b,rfl,_⟩
 .exact cX!
 .exact .inr nK_
def Uk.sd(h:Uk x):Sd x:=by
 rcases h with rfl|⟨a,b,c,rfl,_⟩
 .exact cX!
 .exact .inr vJ!
def a5z.setTx{qa:D->Addr}{l:ad!}{e:Nat}(hA:zB!)(nd:nB!)(ha:d1!):a5z (Cb M wt pQ_) w rl nI! wt wn qa/\xH M rl (Cb M wt pQ_) rl:=by
 have aw:∀b,rl b≠.wt->Cb M wt pQ_ b=M b:=λb O=>mup_ne λz=>O (by rw[z];exact hA.rt);refine⟨⟨?_,e3_,?_,fu_,hA.rw_,hA.rt,hA.rn,bg_⟩,zE!⟩
 .rw[aw w pR!];exact hA.mw
 .rw[mup_same,a0h nd ha];congr 2;apply CJ;intro i _;show(i,if i=a then D.lst k3_ else D.lst kS_)=(i,D.lst ((if i=a then l else W.txt i).map Ci));split<;>rfl
 .rw[pI!];exact hA.mn
 .show"#;"
 .by_cases z:b=wt
  .rw[z,mup_same];simp
  .rw[jN_];show"#2"
def b7p{p v:Int}{R:q_}(h:U!)(wi:El W)(ha:d1!)(hk:dn!)(h0:hF_)(Y:Aa 2 ρ=some ko!)(p0:0<=p)(qr:p<=3)
  (hR:∀M',Dq M' w rl (sY W a ko_)->xH M rl M' rl->R an_ M'):b7q ρ M R:=by
 obtain⟨wt,wn,qa,hA⟩:=h;obtain⟨e0,hw⟩:=hA.mw;obtain⟨e2,hn⟩:=hA.mn;obtain⟨hq,ju⟩:=hA.mq a ha;have hi:=ixw (M:=M) (ρ:=ρ) (s:=ic!) h0 hw k3n;have hg:Ec M ep! a=some pS!:=by rw[Tj hn hk,Wf,AQ ha]
 have L:Ig (oQ_).length p=some p.toNat:=by
  rw[wi.nl a ha];unfold Ig;rw[AQ p0,Y_]
 have gw:Ur M pS! (.int p) eh!=some (Cb M (qa a) (.lst ko_)):=by simp[Ur,hq,L]
 have aw:∀b,rl b≠.q a->Cb M (qa a) (.lst ko_) b=M b:=λb O=>mup_ne λz=>O vV!;have fin:=hR _ ⟨wt,wn,qa,⟨by rw[aw w pR!];exact hA.mw,by rw[aw wt pH!];exact hA.mt,by rw[pI!];exact hA.mn,λi hi=>by
   by_cases c:i=a
   .subst c;refine⟨?_,ju⟩;rw[mup_same];simp[sY]
   .obtain⟨g1,g2⟩:=hA.mq i hi;refine⟨?_,g2⟩;rw[aw _ (by rw[g2];simpa using c),g1];simp[sY,c],hA.rw_,hA.rt,hA.rn,λb O=>by
   by_cases z:b=qa a
   .rw[z,mup_same];simp
   .rw[jN_];exact hA.live b O⟩⟩ (λb _ hr=>zD_)
 show Dz ut! gk! (wl a3!) ρ M R;have e3:=p3 Y;have V9:=p2 Y;have e1:=p1 Y;have ut:∀K:D->Mh->Prop,w2 Ec jc_ b4! ρ M K=K pS! M:=λK=>by
  have st:∀{fo:WE} {fb:d_} {x y:D} (_:zY_) (_:pS_) (K:v_),w2 Ec fo hr! ρ M K=(match Ec M x y with|some d=>K d M|none=>False):=λB Y K=>by
   unfold w2;rw[B];simp only[wl,Y]<;>rfl
  rw[st hi e1,hg]
 unfold Dz;simp only[wl,e3];rw[ut];simp only[wl,V9,gw,Hi];exact fin
def d5i{g:bV!}{fo:WE}{fb:d_}(B:zY_)(Y:pS_)(K:v_):w2 g fo hr! ρ M K=(match g M x y with|some d=>K d M|none=>False):=by unfold w2;rw[B];simp only[wl,Y]<;>rfl
def b2q{fx:d_}(h:U!)(h0:hF_)(L:fx ρ=some a)(hk:dn!)(ha:d1!)(K:v_):w2 Ec bj! k2! ρ M K=K (.lst es!) M:=by obtain⟨wt,wn,qa,hA⟩:=h;obtain⟨e0,hw⟩:=hA.mw;obtain⟨e1,ht⟩:=hA.mt;rw[d5i (ixw (M:=M) (ρ:=ρ) (s:=hv!) h0 hw k3t) L,Tj ht hk,Wf,AQ ha]
def d1d{q:e9!}:Ar (Ci q) G!=some q.1:=by simp[Ci,Ar,Gf,Ig]
def d1c{q:e9!}:Ar (Ci q) aS_=some q.2.1:=by simp[Ci,Ar,Gf,Ig]
def d1b{q:e9!}:Ar (Ci q) bv_=some pT!:=by simp[Ci,Ar,Gf,Ig]
def c2f{neg:Bool}(L:Sd x)(hl:∀d∈l,Sd d):Pz neg M x (.lst l)=some (.bl (if neg then !decide (x∈l)else decide (x∈l))):=by
 have e:zZ_=decide (x∈l):=by
  rw[EJ,List.any_eq_true,BM];show"!Q"
  .rintro⟨d,hd,he⟩;rw[Wq (hl d hd) L,BM]at he;rw[<-he];exact hd
  .intro h;exact⟨x,h,by rw[Wq L L];simp⟩
 have n:∀l:List D,(∀d∈l,Sd d)->Eg l=true/\Hx l<=5:=λl=>by
  induction l with
  |nil=>intro _;simp[Eg,Hx]
  |cons a r ih=>
   intro h;obtain⟨i1,i2⟩:=ih λd hd=>h d (AD _ hd)
   have B:=Ju (h a AL);have Y:=aB (h a AL);refine⟨by simp[Eg,B,i1],by simp[Hx];omega⟩
 obtain⟨n1,n2⟩:=n l hl;show Pz.inS neg M x (.lst l)=_;unfold Pz.inS;show(if Co x&&Eg l&&decide (Hx l<=40)then some (D.bl (if neg=true then ! zZ_ else l.any λd=>Ir d x))else none)=_;rw[AQ (by rw[Ju L,n1];simp;omega),e]
def b4b{fx:d_}{fv:WE}{l:ad!}{R:q_}(h:U!)(nd:nB!)(hB:hG_<5000)(h0:hF_)(L:fx ρ=some a)(hk:dn!)(ha:d1!)(hv:∀K:D->Mh->Prop,K k4! M->fv ρ M K)
  (hR:∀M',Dq M' w rl nI!->xH M rl M' rl->R an_ M'):Dz bj! k2! fv ρ M R:=by
 show"!}";obtain⟨e0,hw⟩:=hA.mw;obtain⟨e1,ht⟩:=hA.mt;unfold Dz;refine hv _ ?_;rw[ixw (M:=M) (ρ:=ρ) (s:=hv!) h0 hw k3t];have gw:=Nm (y:=a) (v:=.lst k3_) ht hk cO_;simp only[wl,L,gw,Hi];obtain⟨g1,g2⟩:=hA.setTx (a:=a) (l:=l) (e:=Lk er_ a e1) nd ha;exact hR _ zM! g2
def tT{f:d_}{n:Nat}(h:f ρ=some (.int (n:Nat)))(hn:n<=100000):Kd f ρ=some ((on!).map λi=>D.int cP_):=by unfold Kd;rw[h];show(if -1000<=pT_/\pT_<=100000 then some (Hh (pT_).toNat)else none)=_;rw[Y_];simp[Hh]
def b7t{g4 r5 r6 r7 r8:D}{x y z m:Int}{R:q_}(h:U!)(wi:El W)(hB:hG_<5000)(ht:z0_)(ha:d1!)(hk:dn!)(m1:1<=m)(TZ:m<=16)
  (hR:∀M' ρ',Dq M' w rl (setT W a (cutT v1! ap!))->xH M rl M' rl->R co_ M'):
  b7u pU! M R:=by
 have Y:∀o4 o5 o6 o7 o8 o9,Aa 2 pU!=some ef!:=λ_ _ _ _ _ _=>rfl;have hm:((m.toNat:Nat):Int)=m:=by omega
 have er:Kd a3! pU!=some ((d7_).map λi=>D.int cP_):=tT (by rw[p3 z1!,hm]) a!;show Ao (Az 9 (Dx 1 [2] (Qu _) _ _ _)) _ _ M R;simp only[Ao,Az,Dx,Qu,er,Hi];refine dt_;refine Fx fs! (λd=>match d with|.int k=>.tup z1_|_=>.non) trivial _ _ bR_ ?_
 .obtain⟨k,cv,rfl⟩:=AZ.mp hd;refine⟨cQ!,rfl,hl!,du!⟩;have e1:f2 Ar s_ V! cQ!=some d6_:=by
   show Ar ef! bv_=_;exact ix2
  have uc:Cy d6_ none (some 2)=some jL!:=by simp[Cy,Ge,HT.sIx]
  have e2:Je gC_ Bw c3! cQ!=some jL!:=by
   unfold Je;rw[e1];exact uc
  have e3:f2 Ar gC_ V! cQ!=some (.int z):=by
   show(f2 Ar s_ V! cQ!).bind (λv=>Ar v bv_)=_;rw[e1];rfl
  have e4:f2 Bb uB_ (Bz ni!) cQ!=some (.tup [fe_,fe!,.int (z+aZ!)]):=by
   have e5:Bz ni! cQ!=some (.tup [.int (z+aZ!)]):=by
    have:f2 Bb uC_ n! cQ!=some (.int (z+aZ!)):=by
     show(f2 Ar gC_ V! cQ!).bind (λv=>Bb v hH!)=_;rw[e3];rfl
    unfold Bz Ad;rw[this];rfl
   show(Je _ _ _ _).bind (λu=>(Bz _ _).bind λv=>Bb u v)=_;rw[e2,e5];rfl
  simp only[wl,e4];exact hK
 rw[kv!,CB];show w2 Ec bj! b4! [some cn!,some x0,some ef!,some nm,o4,o5,o6,o7,o8,some (.lst ((d7_).map z2!))] M _;have eg:(d7_).map z2!=(d7_).map λk=>D.tup gS_:=rfl;rw[eg];generalize hg:(d7_).map (λk=>D.tup gS_)=cp at hR;have y8:∀d∈cp,Sd d:=λd hd=>by
  rw[<-hg]at hd;obtain⟨k,_,rfl⟩:=AZ.mp hd;exact .inr (.inr (.inr ⟨[x,y,z+(k:Nat)],rfl⟩))
 rw[b2q (ρ:=[w!,K!,k5!,fG_,o4,o5,o6,o7,o8,some hI!]) h rfl (p1 z1!) hk ha];refine b4b (l:=cutT cp ap!) h wi.nd hB rfl k5_ hk ha z2_ λM' g1 g2=>hR M' _ g1 g2;show Dx 1 [9] (Qu (Iz B!)) _ _ _ z3! M K;have ei:Iz B! z3!=some es!:=rfl;simp only[Dx,Qu,ei,Hi];refine dt_;refine Fx fs! (λd=>match d with|.tup [s,c,.bl b]=>Ci z3_|_=>.non) trivial _ _ bR_ ?_
 .obtain⟨q,hq,rfl⟩:=AZ.mp hd;have sq:Sd q.1:=(z4!).sd;refine⟨hJ_,rfl,hl!,du!⟩;have e0:f2 Ar n! C_ hJ_=some q.1:=d1d;have e1:f2 Ar n! t_ hJ_=some q.2.1:=d1c;have e2:f2 Ar n! V! hJ_=some pT!:=d1b;have e3:Aa 1 hJ_=some hI!:=rfl;have e4:Pz true M q.1 hI!=some (.bl (!decide (q.1∈cp))):=c2f sq y8;simp only[b9h,Ac,Al,wl,e0,e1,Yf,wT,e2];cases O:q.2.2 with
  |true=>
   rw[j!];simp only[w2,wl,e0,e3,e4];refine⟨J!,?_⟩;have:K (Ci nQ!) M:=by
    have:=hK;rw[z4_]at this;exact this
   rw[O]at this;simpa[Ci]using this
  |false=>
   rw[Z!];refine⟨J!,?_⟩;have:K (Ci nQ!) M:=by
    have:=hK;rw[z4_]at this;exact this
   rw[O]at this;simpa[Ci]using this
 .rw[kv!,CB];have:(ap!).map ((λd=>match d with|.tup [s,c,.bl b]=>Ci z3_|_=>D.non)∘Ci)=(cutT cp ap!).map Ci:=by
   unfold cutT;rw[CB];rfl
  rw[this];exact hK
nonrec def AtS(l:ad!)(b:D)(k a:Nat):Prop:=(a=0/\∀j<k,z5!≠some b)\/∃j<k,z5!=some b/\a=j+1
def a2x{o4:D}{l:ad!}(hl:P!<5000)(hs:∀q∈l,Sd q.1)(O:Sd b)(R:q_)(hR:∀(a:Nat) y,AtS l b l.length a->R (.nx z6!) M):
  ∀(m k a:Nat) (y:ad_),P! - k=m->k<=P!->AtS l b k a->Kf db_ F! wrF zx! z6! M R
 |0,k,a,y,hm,hk,ha=>⟨trivial,hR a y (by rw[show l.length=k by omega];exact ha)⟩
 |m+1,k,a,y,hm,hk,ha=>by
  have c1:k<P!:=by omega
  rw[List.range'_succ,AH];refine aO_;show wrF cQ_ M _;show Bs ho_ _ _ cQ_ M _;have e1:l[k]?=some l[k]:=BB c1;have ea:f2 Ar B! bx! cQ_=some (Ci l[k]):=by
   show Gf k3_ aZ!=_;show"#0";simp[c1]
  have eb:f2 Ar w_ V! cQ_=some b:=p2 rfl;have et:f2 Cg uv_ dP! cQ_=some (.bl z7!):=by
   show((f2 Ar B! bx! cQ_).bind λv=>Ar v G!).bind (λu=>(f2 Ar w_ V! cQ_).bind λv=>Cg u v)=_;rw[ea,eb];show(Ar (Ci l[k]) G!).bind (λu=>Cg u b)=_;rw[d1d];exact cL (hs _ hA_) O
  have cond:fT uw! cQ_=some z7!:=by
   unfold fT;rw[et];rfl
  have es:f2 Bb bx! t_ cQ_=some kY!:=by
   show pE_;simp[Bb]
  by_cases z:(l[k]).1=b
  .refine zz!;simp only[Az,wl,es];exact a2x (o4:=o4) hl hs O R hR m Q! Q! _ a! a! (.inr ⟨k,r!,by rw[e1];exact congrArg some z,rfl⟩)
  .refine Qh zA! ?_;refine a2x (o4:=o4) hl hs O R hR m Q! a _ a! a! ?_;rcases ha with⟨B,Y⟩|⟨j,B,Y,h3⟩
   .refine .inl ⟨B,j1_⟩;by_cases y:j=k
    .rw[y,e1];exact λx=>z (BZ x)
    .exact Y j a!
   .exact zA_
def AtS.wr{l:ad!}{a:Nat}(h:AtS l b l.length a)(nd:(em_).Nodup):wrT b nw l=l.take a++nw++l.drop a/\a<=P!:=by
 rcases h with⟨rfl,Y⟩|⟨j,B,Y,rfl⟩
 .have nb:b∉l.map b!:=λz=>by
   obtain⟨j,hj⟩:=FL.mp z;rw[BS]at hj;have:j<P!:=by
    cases e:l[j]? with
    |none=>rw[e]at hj;cases hj
    |some q=>exact(BA.mp e).1
   exact Y j this hj
  unfold wrT;rw[AI nb];simp
 .have hj:l[j]?=some l[j]:=BB B;rw[hj]at Y;have O:(cm_).1=b:=BZ Y;have e:l=l.take j++l[j]::l.drop (j+1):=by rw[<-EV B,List.take_append_drop]
  have nb:b∉(l.take j).map b!:=λz=>by
   rw[e]at nd;simp only[BJ,AH]at nd;rw[BP]at nd;exact nd.2.2 _ z _ c_ O.symm
  have ut:b∈l.map b!:=by rw[<-O];exact AM (CO B)
  refine⟨?_,r!⟩;unfold wrT;rw[AQ ut]
  conv=>lhs;rw[e]
  rw[nF O nb,GJ B];simp only[CQ,FG,CZ]
def a9w(h n:Int)(s:Str):s.cps.toList.zipIdx.map d9_=(pV_).map λk=>(D.tup oR_,D.str k6!,true):=by
 apply JQ;intro i;rw[BS,BS,IS];by_cases c:i<gY_
 .have c':i<ah_:=by simpa[Str.length]using c
  rw[BB c,List.getElem?_range c'];simp[sgn,List.getD,BB c];simp at c;simp[c]
 .have c':¬i<ah_:=by simpa[Str.length]using c
  rw[CL a!,CL bJ!];rfl
def d3d{f g k:d_}(B:k6_)(Y:k7!)(h3:k ρ=some c):Bz (Ad f Aa!) ρ=some (.tup cV_):=by simp[Bz,Ad,An,B,Y,h3]
def a5m{h n:Int}{s:Str}{R:q_}(hL:U!)(wi:El W)(hB:hG_<5000)(ht:z0_)(ha:d1!)(hk:dn!)(O:Sd b)(UR:jR_)
  (hR:∀M' ρ',Dq M' w rl (setT W a (wrT b ea_ ap!))->xH M rl M' rl->R co_ M'):
  wN pW_ M R:=by
 show Ao (Az 5 (w2 Ec _ _)) _ pW_ M R;unfold Ao Az;rw[b2q (ρ:=pW_) hL rfl k5_ hk ha];show Fn nh! db_ wrF Ab_ M _;have er:Kd uv! Ab_=some ((List.range (ap!).length).map λi=>D.int cP_):=tT (by
  show Dh [.lst es!]=_;simp[Dh]) a!
 simp only[Fn,Qu,er,Hi,List.range_eq_range'];refine a2x (M:=M) (o4:=.non) ht (λq hq=>(z4!).sd) O _ (λat_ y KU=>?_) (ap!).length 0 0 none a! a! zJ!;obtain⟨ew,uy⟩:=KU.wr (nw:=s.cps.toList.zipIdx.map d9_) (wi.snd a ha);show Dx 1 [2,3] (Qu _) _ _ _ Ac_ M _;have cb:Kd ux! Ac_=some ((pV_).map λi=>D.int cP_):=tT (by
  unfold f1 Ad;rw[p3 (k:="write") (a:=a) (b:=b) (c:=dm!) (r:=[]) rfl];show Dh [dm!]=_;simp[Dh,big];omega) a!
 simp only[Dx,Qu,cb,Hi];refine dt_;refine Fx fs! (λd=>match d with|.int k=>Ci Ad!|_=>.non) trivial _ _ bR_ ?_
 .obtain⟨k,cv,rfl⟩:=AZ.mp hd;have WB:=GM.mp cv;refine⟨fH_,rfl,hl!,du!⟩;have e1:f2 Bb w_ (Bz a1!) fH_=some (.tup Ad_):=rfl;have e2:f2 Ar s_ av! fH_=some ba!:=by
   show Ar fl! aC_=_;exact ix3
  have hc:k<gY_:=by simpa[Str.length]using WB
  have e3:Ar ba! hH!=some (.str k6!):=by
   show(if ah_<=big then(Gf s.cps.toList aZ!).map _ else none)=_;rw[dq!];have:Gf s.cps.toList aZ!=some (s.cps.toList.getD k 0):=by
    unfold Gf Ig;rw[Y_,Y_];simp only[FE,FA];rw[BB hc,List.getD_eq_getElem?_getD,BB hc];rfl
   rw[this];rfl
  have e4:f2 Ar nb! n! fH_=some (.str k6!):=by
   show(f2 Ar s_ av! fH_).bind (λv=>Ar v hH!)=_;rw[e2];exact e3
  have e5:Bz uy! fH_=some (Ci (.tup Ad_,.str k6!,true)):=by
   exact d3d e1 e4 rfl
  simp only[wl,e5];exact hK
 rw[kv!,CB];have en:(pV_).map ((λd=>match d with|.int k=>Ci Ad!|_=>D.non)∘λi=>D.int cP_)=(ea_).map Ci:=by
  rw[a9w,CB];apply CJ;intro k _;simp
 rw[en];show Dz bj! _ _ [w!,K!,fH!,bn_,y4,hI_,pX!,y,some (.lst ((ea_).map Ci)),none] M _;have WC:(ea_).length=ah_:=by simp[Str.length]
 refine b4b (l:=wrT b ea_ ap!) hL wi.nd hB rfl k5_ hk ha z2_ λM' g1 g2=>hR M' _ g1 g2;generalize X':s.cps.toList.zipIdx.map d9_=nw at *;have s1:Je B! Bw e0_ pX_=some pY!:=b8b kZ_;have s2:Je B! e0_ Bw pX_=some Ae_:=a1w kZ_;have b1:Bb pY! k8_=some Af!:=by
  show hd!;rw[k0!]
 have b2:Bb Af! Ae_=some Af_:=by
  show hd!;rw[k0!,ew];simp
 have ev:f2 Bb uz! uz_ pX_=some Af_:=by
  show((Je B! Bw e0_ _).bind λu=>Bb u k8_).bind (λu=>(Je B! e0_ Bw _).bind λv=>Bb u v)=_;rw[s1,s2];show(Bb pY! k8_).bind (λu=>Bb u _)=_;rw[b1];exact b2
 simp only[wl,ev];exact hK
def Fa{f:d_}(h:cG_)(K:v_):wl f ρ M K=K d M:=by simp only[wl,h]
def b7r{h n:Int}{R:q_}(hL:U!)(wi:El W)(hB:hG_<4000)(hl:ax!<3900)(hn:Ag!)(ha:Sd a)(hk:dn!)(O:Sd b)
  (hR:∀M' ρ' af rows',gW W.rows ae! cI! b rows'->Dq M' w af (Kk W ae! rows')->xH M rl M' af->R co_ M'):
  b7s fI! M R:=by
 obtain⟨wt,wn,qa,hA⟩:=id hL;obtain⟨e0,hw⟩:=hA.mw;obtain⟨e1,ht⟩:=hA.mt;obtain⟨e2,wz⟩:=hA.mn;have a7:∀{c d:Addr},rl c≠rl d->c≠d:=λh z=>h g0_;have PU:w≠wt:=a7 (by rw[hA.rw_,hA.rt];simp);have WD:w≠wn:=a7 (by rw[hA.rw_,hA.rn];simp);have tn:wt≠wn:=a7 (by rw[hA.rt,hA.rn];simp);show Ao (Az 4 (a9n (w2 bw! _ _) _)) _ fI! M R;unfold Ao Az a9n wT;rw[cB (ρ:=fI!) hL rfl k5_ hk];have er:f2 Cg eM! ik_ fI!=some (.bl Ag_):=by
  show(f2 Ar w_ t_ fI!).bind (λu=>Cg u gb!)=_;rw[Ah_];exact cL ha (Pj _)
 have key:∀g:Bool,(g=true↔(a∈W.its\/a=root))->
   Ao nc_ (Ao ne! nf!)
    (bF!) M R:=by
  intro g hg;have f7:Ha ae!=some (some (.inr [.inl h,.inl n])):=rfl;unfold Ao Dz;have f3:∀g',Aa 3 [w!,K!,some ee_,bn_,some (.bl g'),none,none,none,none,none]=some ae!:=λ_=>rfl;have fl:Hq An bF!=some bW_:=rfl;rw[Fa fl];rw[ixw (M:=M) (ρ:=bF!) (s:=hv!) rfl hw k3t];have gw:=Nm (y:=gY!) (v:=k9_) ht f7 cO_;simp only[wl,f3,gw,Hi];rw[rL hn];generalize hM1:Cb M wt Ai_=M1;have PV:M1 w=some (.dct hC! e0):=by rw[<-hM1,mup_ne PU];exact hw
  have PX:M1 wn=some (.dct hK! e2):=by rw[<-hM1,mup_ne (AK tn)];exact wz
  have KW:M1 wt=some Ai_:=by rw[<-hM1];exact mup_same
  have m1:∀c,c≠wt->M1 c=M c:=λc hc=>by rw[<-hM1];exact mup_ne hc
  show Nf uo! bF! M1 _;refine⟨W!,ht!⟩;have qw:w≠q:=Bj (by rw[PV];simp) hq;have qt:wt≠q:=Bj (by rw[KW];simp) hq;have qn:wn≠q:=Bj (by rw[PX];simp) hq;have WG:Cb M1 q eb! w=some (.dct hC! e0):=(mup_ne qw).trans PV;have WH:Cb M1 q eb! wn=some (.dct hK! e2):=(mup_ne qn).trans PX;show w2 Ec i! nd_ bF! (Cb M1 q eb!) _;rw[ixw (M:=Cb M1 q eb!) (ρ:=bF!) (s:=ic!) rfl WG k3n];have WJ:=Nm (y:=gY!) (v:=.fn q) WH f7 cO_;simp only[wl,f3,WJ,Hi];rw[rL hn];generalize oy:Cb (Cb M1 q eb!) wn Al_=M3;have Mq:∀c,M c≠none->c≠q:=λc hc=>by
   by_cases z:c=wt
   .rw[z];exact qt
   .exact Bj (N:=M1) (by rw[m1 c z];exact hc) hq
  have m3:∀c,c≠wt->c≠q->c≠wn->M3 c=M c:=λc B Y h3=>by rw[<-oy,nL_,cF!,m1 c B]
  have PY:M3 wt=M1 wt:=by rw[<-oy,mup_ne tn,mup_ne qt]
  have PZ:M3 wn=some Al_:=by rw[<-oy];exact mup_same
  have QA:M3 q=some eb!:=by rw[<-oy,mup_ne (AK qn),mup_same]
  have WK:M3 w=M w:=m3 w PU qw WD
  let j8:D->Addr:=λi=>if i=.tup T! then q else qa i
  let af:Addr->LR:=λc=>if c=q then .q ae! else rl c
  have ah:∀c,M c≠none->af c=rl c:=λc hc=>AI (Mq c hc);have lw:M w≠none:=by rw[hw];simp
  have lt:M wt≠none:=by rw[ht];simp
  have ln:M wn≠none:=by rw[wz];simp
  have KY:Dq M3 w af (Kk W ae! W.rows):=by
   refine⟨wt,wn,j8,⟨⟨e0,by rw[WK];exact hw⟩,⟨Lk er_ ae! e1,?_⟩,⟨Lk hK! ae! e2,?_⟩,fu_,(ah w lw).trans hA.rw_,(ah wt lt).trans hA.rt,(ah wn ln).trans hA.rn,kp_⟩⟩
   .rw[PY,KW];congr 2;show _=(Ao_).map _;rw[BJ];congr 1
    .apply CJ;intro i hi;show(i,D.lst kS_)=(i,D.lst ((if i=.tup T! then[]else W.txt i).map Ci));rw[Ap!]
    .show[(D.tup T!,D.lst [])]=[(D.tup T!,D.lst ((if D.tup T!=.tup T! then[]else W.txt ae!).map Ci))];rw[j!];rfl
   .rw[PZ];congr 2;show _=(Ao_).map _;rw[BJ];congr 1
    .apply CJ;intro i hi;show(i,D.fn fD_)=(i,D.fn (if i=.tup T! then q else qa i));rw[Ap!]
    .show[(D.tup T!,D.fn q)]=[(D.tup T!,D.fn (if D.tup T!=.tup T! then q else qa ae!))];rw[j!]
   .have dw:i∈W.its++[D.tup T!]:=hi;rcases AR.mp dw with z|z
    .obtain⟨g1,g2⟩:=hA.mq i z;have ni:i≠.tup T!:=λy=>hn (y▸z);have eq:j8 i=qa i:=AI ni;have lq:M fD_≠none:=by rw[g1];simp
     rw[eq];refine⟨?_,(ah _ lq).trans g2⟩;rw[m3 _ (a7 (by rw[g2,hA.rt];simp)) (Mq _ lq) (a7 (by rw[g2,hA.rn];simp)),g1];show some (dA.lst jF_)=some (dA.lst (if i=.tup T! then _ else W.num i));rw[AI ni]
    .rw[AV]at z;subst z;have eq:j8 ae!=q:=AQ rfl;rw[eq];refine⟨?_,j!⟩;rw[QA];show _=some (dA.lst (if D.tup T!=.tup T! then[.int 0,.int 0,.int 0,.int 0]else _));rw[j!]
   .by_cases z:c=q
    .rw[z,QA];simp
    .have a8:rl c≠.oth:=by rw[<-(AI z:af c=rl c)];exact hc
     have lc:=hA.live c a8;by_cases z1:c=wt
     .rw[z1,PY,KW];simp
     .by_cases z2:c=wn
      .rw[z2,PZ];simp
      .rw[m3 c z1 z z2];exact lc
  have F1:xH M rl M3 af:=λc hc hr=>⟨m3 c (a7 (by rw[hr,hA.rt];simp)) (Mq c hc) (a7 (by rw[hr,hA.rn];simp)),(ah c hc).trans hr⟩;have ep:Xt (fT O_) eM! il! bF!=some cI!:=by
   have e4:fT O_ bF!=some g:=rfl;unfold Xt;rw[e4];show(if g=true then f2 Ar w_ t_ bF! else some Di)=_;rw[Ah_];by_cases c:a∈W.its\/a=root
   .rw[AQ (hg.mpr c),AQ (c.elim .inl λz=>.inr jB!)]
   .rw[AI λz=>c (hg.mp z)];by_cases c2:Kh W a
    .rw[AQ c2];rcases c2 with z|z|z
     .exact absurd jB! c
     .exact absurd e9_ c
     .rw[z]
    .rw[AI c2]
  have eb:f2 Ar w_ V! bF!=some b:=p2 rfl;have f0:Aa 0 bF!=some cn!:=rfl;have hc:∀(K:v_),Lz [bq_,gY!,cI!,b] M3 K->Ba 4 Lz uo_ bF! M3 K:=λK hK=>by
   simp only[Ba,Ac,Al,wl,f0,f3,ep,eb];exact⟨rfl,hK⟩
  refine Nu (hc _ (a2q KY dj! (.inr (.inr (.inr ⟨[h,n],rfl⟩))) (by split;exact ha;exact Pj _) O (by show ax!<_;omega) λM' rows' sj c7 WL=>?_))
  .obtain⟨z1,z2,_⟩:=iQ wi q hq;exact⟨z1.sd,z2,z1.nn.1⟩
  .exact hR M' _ af rows' sj c7 (F1.trans WL)
 by_cases c:a∈W.its
 .rw[BK c];exact key true (by simp[c])
 .rw[AW c];show wl un! fI! M _;simp only[wl,er];exact key Ag_ (by simp[c])
end
structure oE(W:OW)(hb:Nat):Prop where
 rows:ax!<=hb
 its:hG_<=hb
 txt:∀x,(aF_).length<=hb
def gW.len{rows rows':g!}(h:gJ!):rows'.length<=pZ_+1:=by
 obtain⟨u,v,e1,e2,_⟩:=h;have B:(cD!).length<=pZ_:=by unfold wo;exact FO _ _
 rw[e1,AT]at B;rw[e2,AT,AJ];omega
def oE.stp{W:OW}{hb:Nat}(l:cR!)(h:p0!):oE W' a9_:=by
 have l1:=l.rows;have l2:=l.its;have l3:=l.txt;have same:oE W a9_:=⟨r!,r!,λx=>by have:=l3 x;omega⟩;cases h with
 |put _ _ hg=>
  have:=hg.len;refine⟨by show _<=_;unfold Kk;simp only;omega,by unfold Kk;simp only[AT,CG];omega,jy_⟩;unfold Kk;simp only;split
  .simp
  .have:=l3 x;omega
 |mvY _ _ _ _ hg=>
  have:=hg.len;exact Aq_
 |mvN=>exact same
 |drY _ _ hg=>
  have:=hg.len;exact Aq_
 |drN=>exact same
 |@wrt a b s h m _ _ hs e=>
  split
  .refine Ar!;unfold setT;simp only;split
   .obtain⟨u,v,e1,e2,_⟩:=dC b hi_ ap!;have:=l3 a;rw[e1,AT]at this;rw[e2];have bu:gY_<=16:=hs;simp only[AT,AU,GC];omega
   .have:=l3 x;omega
  .exact same
 |cut=>
  split
  .refine Ar!;unfold setT;simp only;split
   .unfold cutT;rw[AU];exact same.txt _
   .exact same.txt x
  .exact same
 |set=>
  split
  .exact⟨same.rows,same.its,same.txt⟩
  .exact same
section
variable{M:Mh}{R:D->Mh->Prop}{w:Addr}{rl:Addr->LR}{W:OW}{ρ:Ag}{pre:List D}
def sZ{i:Nat}{f:d_}{q:WS}{R:q_}(h:cG_)(k:q bO_ M R):Ao (Az i (wl f)) q ρ M R:=by unfold Ao Az;rw[Fa h];exact k
def c5b{g:WF}{f1 f2 f3 f4:d_}{K:v_}(B:fi!)(Y:fi_)(h3:kq_)(h4:f4 ρ=some d)(k:g [a,b,c,d] M K):Ba 4 g ye_ ρ M K:=by unfold Ba Ac Al;rw[Fa B,Fa Y,Fa h3,Fa h4];exact p1!
def kT(h:pQ!)(e:(k==k)=true):knd k ρ=some true:=by rw[b6h h,e]
def kF(h:pQ!)(e:kq!=false):knd k' ρ=some false:=by rw[b6h h,e]
nonrec def tl3:WS:=Bs zT! b7q zU!
nonrec def tl2:WS:=Bs zR_ ng! (Bs zS_ ng_ tl3)
nonrec def tl1:WS:=Bs zR! b7s tl2
def c0h:b3y=Ao nb_ (Ao nc! tl1):=c0i
nonrec def pV(w:Addr)(x0 d nm:D):Ag:=[w!,K!,some d,fG_,none,none,none,none,none,none]
def dv0:Aa 0 At!=some cn!:=rfl
def Yy:Aa 2 At!=some d:=rfl
nonrec def DoR(W:OW)(M:Mh)(w:Addr)(rl:cN_)(n d:D)(R:q_):Prop:=∀M' af W' ρ',oI W n d W'->Dq M' w af W'->xH M rl M' af->R co_ M'
def c8r{h n:Int}{hb:Nat}{R:q_}(hL:U!)(wi:El W)(ax:cR!)(hB:es_)(hn:Ag!)(ha:Fz a)(O:Ye b)
  (hR:DoR W M w rl ae! ee_ R):tl1 (pV w x0 ee_ ae!) M R:=by
 show"!1";have l1:=ax.rows;have l2:=ax.its;refine ifT (kT Yy b6j) ?_;exact b7r hL wi a! a! hn ha.sd bm O.sd λM' ρ' af rows' hg c7 hF=>hR M' af _ ρ' (.put ha O hg) c7 hF
def c2s{hb:Nat}{R:q_}(hL:U!)(wi:El W)(ax:cR!)(hB:es_)(ha:Fz a)(O:Fz b)(hc:Ye c)
  (hR:DoR W M w rl nm g9_ R):tl1 (pV w x0 g9_ nm) M R:=by
 show"!1";obtain⟨kb,k8⟩:=Ex O;have l1:=ax.rows;refine Qh (kF Yy Qn) ?_;refine ifT (kT Yy vO) ?_;refine Nu (c5b dv0 (p1 Yy) (p2 Yy) (p3 Yy) ?_);refine a2p hL wi a! ha.sd O.sd hc.sd bm k8 λM' W' B Y c7 hF=>?_;by_cases g:a∈W.its/\Kh W b/\¬Wn W.rows a b
 .obtain⟨rows',hg,e⟩:=B g;rw[e]at c7;exact hR M' rl _ _ (.mvY ha O hc g hg) c7 hF
 .rw[Y g]at c7;exact hR M' rl _ _ (.mvN ha O hc g) c7 hF
def c2t{hb:Nat}{R:q_}(hL:U!)(wi:El W)(ax:cR!)(hB:es_)(ha:Fz a)
  (hR:DoR W M w rl nm ha! R):tl1 (pV w x0 ha! nm) M R:=by
 show"!1";have l1:=ax.rows;refine Qh (kF Yy Qo) ?_;refine Qh (kF Yy Ox) ?_;refine ifT (kT Yy vP) ?_;refine Nu (c5b (c:=Di) (d:=.non) dv0 (p1 Yy) rfl rfl ?_);refine a2p (kx:=oY_) hL wi a! ha.sd (Pj _) aB_ bm rfl λM' W' B Y c7 hF=>?_;by_cases g:a∈W.its/\Kh W Di/\¬Wn W.rows a Di
 .obtain⟨rows',hg,e⟩:=B g;rw[e]at c7;exact hR M' rl _ _ (.drY ha g hg) c7 hF
 .rw[Y g]at c7;exact hR M' rl _ _ (.drN ha g) c7 hF
def c8q{p v:Int}{hb:Nat}{R:q_}(hL:U!)(wi:El W)(ax:cR!)(hB:es_)(ha:Fz a)(h0:0<=p)(h3:p<=3)
  (hR:DoR W M w rl nm ko! R):tl1 (pV w x0 ko! nm) M R:=by
 show"!1";have st:=oI.set (W:=W) (n:=nm) (v:=v) ha h0 h3;refine Qh (kF Yy Zs) ?_;refine Qh (kF Yy Wa) ?_;refine Qh (kF Yy Wb) ?_;refine anT (kT Yy b6i) p2_ dz_ dz_
 .show"#C";exact b7p hL wi c' bm dv0 Yy h0 h3 λM' c7 hF=>hR M' rl _ _ st c7 hF
 .show"#B";refine anF (kF Yy Th) ?_;refine anF (kF Yy Zt) ?_;show"#<"
def b7o{h n:Int}{s:Str}{hb:Nat}{R:q_}(hL:U!)(wi:El W)(ax:cR!)(hB:es_)(ha:Fz a)(O:Uk b)(hs:jR_)
  (hR:DoR W M w rl ae! fl! R):tl1 (pV w x0 fl! ae!) M R:=by
 show"!1";have l2:=ax.its;have l3:=ax.txt a;have st:=oI.wrt (W:=W) (n:=gY!) ha O hs rfl;refine Qh (kF Yy Tg) ?_;refine Qh (kF Yy Re) ?_;refine Qh (kF Yy Rf) ?_;refine anF (kF Yy vK) ?_;refine anT (kT Yy a0r) p2_ dz_ dz_
 .show"#C";exact a5m hL wi a! a! c' bm O.sd hs λM' ρ' c7 hF=>hR M' rl _ _ st c7 hF
 .show"#B";refine anF (kF Yy vL) ?_;show"#<"
def c8s{x y z m:Int}{hb:Nat}{R:q_}(hL:U!)(wi:El W)(ax:cR!)(hB:es_)(ha:Fz a)(h0:0<=z)(B:1<=m)(Y:z+m<=16)
  (hR:DoR W M w rl nm ef! R):tl1 (pV w x0 ef! nm) M R:=by
 show"!1";have l2:=ax.its;have l3:=ax.txt a;have st:=oI.cut (W:=W) (n:=nm) (x:=x) (y:=y) ha h0 B Y;refine Qh (kF Yy Zu) ?_;refine Qh (kF Yy Wc) ?_;refine Qh (kF Yy We) ?_;refine anF (kF Yy a4x) ?_;refine anF (kF Yy Ti) ?_;refine anT (kT Yy b6k) p2_ dz_ dz_
 .show"#C";exact b7t (g4:=nm) (r5:=nm) (r6:=nm) (r7:=nm) (r8:=nm) hL wi a! a! c' bm B a! λM' ρ' c7 hF=>hR M' rl _ _ st c7 hF
 .show"#B";show"#<"
def c6s(o:Op):Ar o.v aC_=some o.d:=by simp[Op.v,Ar,Gf,Ig]
def lU(o:Op):Ar o.v G!=some bE!:=by simp[Op.v,Ar,Gf,Ig]
def uD(o:Op):Ar o.v aS_=some (.int o.n):=by simp[Op.v,Ar,Gf,Ig]
def b7f{f g:d_}(B:k6_)(Y:k7!):Bz (Ad f (Ad g An)) ρ=some hD_:=by simp[Bz,Ad,An,B,Y]
def c9v{o:Op}{hb:Nat}(hL:U!)(hw:ds_)(hn:o.nm∉pre)(hd:DG o.d)(hu:Mf o.d=none)(ax:cR!)(hB:es_)
  (hR:∀M' af W',oI W o.nm o.d W'->Dq M' w af W'->xH M rl M' af->R .non M'):a8p [bq_,o.v] M R:=by
 refine m_;rw[c0h];have e3:f2 Ar s_ av! Ax!=some o.d:=c6s o;refine sZ (ρ:=Ax!) e3 ?_;have e0:Bz um_ Ay!=some o.nm:=b7f (lU o) (uD o);refine sZ (ρ:=Ay!) e0 ?_;show tl1 (pV w o.v o.d o.nm) M _;generalize hK:wH_=K;have gr:DoR W M w rl o.nm o.d K:=λM' af W' ρ' B Y h3=>by rw[<-hK];exact hR M' af W' B Y h3
 have vc:o.nm∉W.its:=λz=>hn (hw.its _ z);clear hR hK e3 e0 hn;obtain⟨h,n,tm,d⟩:=o;generalize Op.v ⟨h,n,tm,d⟩=v;change tl1 (pV w v d ae!) M K;change DoR W M w rl ae! d K at gr;change D.tup T!∉W.its at vc;change DG d at hd;change Mf d=none at hu;cases hd with
 |put ha O=>exact c8r hL hw.inv ax hB vc ha O gr
 |move ha O hc=>exact c2s hL hw.inv ax hB ha O hc gr
 |drop ha=>exact c2t hL hw.inv ax hB ha gr
 |write ha O _ _ hs=>exact b7o hL hw.inv ax hB ha O hs gr
 |cut ha hs B Y=>
  obtain⟨_,_,_,e,_,_,_,_,z0,_⟩:=hs;cases e;exact c8s hL hw.inv ax hB ha z0 B Y gr
 |set ha B Y _=>exact c8q hL hw.inv ax hB ha B Y gr
 |undo _=>rw[Mo]at hu;exact absurd hu (by simp[show o5!=true from by decide+kernel])
 |redo _=>rw[Mo]at hu;exact absurd hu (by simp[show o5_=true from by decide+kernel])
end
def oE.mono{W:OW}{hb B':Nat}(l:cR!)(h:hb<=B'):oE W B':=⟨BN l.rows h,BN l.its h,λx=>BN (l.txt x) h⟩
section
variable{M:Mh}{R:D->Mh->Prop}{w:Addr}{rl:Addr->LR}{W:OW}{ρ:Ag}{pre:List D}
def Dq.keep{M':Mh}(h:U!)(k:y7!):Dq M' w rl W:=by
 show"!}";refine⟨wt,wn,qa,⟨?_,?_,?_,fu_,hA.rw_,hA.rt,hA.rn,bg_⟩⟩
 .rw[k w pR!];exact hA.mw
 .rw[k wt pH!];exact hA.mt
 .rw[k wn zE_];exact hA.mn
 .obtain⟨B,Y⟩:=hA.mq i hi;exact⟨(k _ pH_).trans B,Y⟩
 .rw[k b O];show"#2"
def Dq.live(h:U!)(O:rl b≠.oth):M b≠none:=by obtain⟨wt,wn,qa,hA⟩:=h;exact hA.live b O
def d3k{ep:Nat}{fo fa fb:d_}(hp:bQ!)(h0:fI_)(B:p4!)(Y:fb ρ=some z)(hk:ck_)(K:v_)(hK:K ((hF!).getD z) M):Ob ch! em! hr! ρ M K:=by
 have c:Il M y!=some kU_:=by simp[Il,hp]
 simp only[Ob,wl,h0,B,Y,c,Hi,hk];exact hK
def gV{g:WF}{f1 f2:d_}{K:v_}(B:fi!)(Y:fi_)(k:g ag! M K):Ba 2 g wH! ρ M K:=by unfold Ba Ac Al;rw[Fa B,Fa Y];exact p1!
def a2e{g:WF}{f1:d_}{K:v_}(B:fi!)(k:g [a] M K):Ba 1 g (Ac jY_ Al) ρ M K:=by unfold Ba Ac Al;rw[Fa B];exact p1!
nonrec def lpC:WT:=Me uI_ uJ_
nonrec def lpB:WS:=Bs lpC uL! Eu
def d2v{ft:WT}{q1 q2:WS}{b:Bool}{R:q_}(h:Az_)(k1:zW_)(k2:zX!):Bs ft q1 q2 ρ M R:=by
 unfold Bs;refine h _ ?_;cases b with
 |true=>rw[j!];exact k1 rfl
 |false=>rw[Z!];exact k2 rfl
def b9e{ft fu:WT}{b:Bool}{c:Bool}(h:Az_)(Y:b=true->∀K:Bool->Mh->Prop,K c M->fu ρ M K)(K:fA!)(hK:K (b&&c) M):Me ft fu ρ M K:=by
 unfold Me;refine h _ ?_;cases b with
 |true=>rw[j!];exact Y rfl K (by simpa using hK)
 |false=>rw[Z!];simpa using hK
def c1r{e0:Nat}{x:Op}(k9:AA!)(hd:DG x.d)(hp:M p=some (.dct kb e0))(K:fA!)
  (hK:K (decide AA_) M):lpC fJ! M K:=by
 obtain⟨k,r,e,hn,hs⟩:=d3n hd;have i0:f2 Ar mF! C_ fJ!=some T_:=b6q e;have hu:(! kQ!)=decide p4_:=by
  cases hu:Mf x.d with
  |none=>
   obtain⟨B,Y⟩:=hn hu;rw[zj_,zk_,B,Y];rfl
  |some u=>
   obtain⟨g1,g2,hk,iu⟩:=hs u hu;rw[a6g hk];rfl
 obtain⟨kn,f7⟩:=a4l x;have hz:(∃b:Bool,(kget kb x.nm).getD au_=.bl b/\(b=true↔kget wd x.nm=some b2_)):=by
  rcases k9 x.nm with⟨B,Y⟩|⟨k',B,Y⟩
  .exact⟨false,by rw[Y];rfl,by rw[B];simp⟩
  .refine⟨k'=="undo",by rw[Y];rfl,?_⟩;rw[B];show"!Q"
   .intro z;rw[eq_of_beq z]
   .intro z;rw[D.str.inj (BZ z)];exact DY _
 obtain⟨b,WM,QB⟩:=hz;have e2:Bz uJ! fJ!=some x.nm:=b7f (lU x) (uD x);refine b9e (b:=decide p4_) (c:=!b) (λK' mf=>?_) (λ_ K' mf=>?_) K ?_
 .unfold wT w2;rw[Fa i0,Fa (f:=fC t5!) rfl,a1a];show K' (! kQ!) M;rw[hu];exact mf
 .unfold Uy wT;refine d3k hp rfl e2 rfl f7 _ ?_;rw[WM];exact mf
 .have:(decide p4_&&!b)=decide AA_:=by
   by_cases c1:Mf x.d=none
   .by_cases c2:kget wd x.nm=some b2_
    .rw[QB.mpr c2];simp[c2]
    .have:b=false:=by
      cases b with
      |true=>exact absurd (QB.mp rfl) c2
      |false=>rfl
     rw[this,BK c1,BK (⟨c1,c2⟩:_/\_)];rfl
   .rw[AW c1,AW λz:_/\_=>c1 z.1];rfl
  rw[this];exact hK
def uV{e0:Nat}(k9:AA!):
  ∀(os:o_) (x1:D) (y:ad_) (M:Mh) (rl:cN_) (W:OW) (pre:b_) (hb:Nat) (R:q_),(∀x∈os,DG x.d)->y1!->(kG_).Nodup->Dq M w rl W->pX W pre->oE W hb->hb+20*aQ!<3800->M p=some (.dct kb e0)->rl p=.oth->
   (∀M' af W' y',Run W pn_ W'->Dq M' w af W'->po!->oE W' po_->xH M rl M' af->R (.nx [H!,w!,H_,y']) M')->
   Kf N! F! lpB ap_ [H!,w!,H_,y] M R
 |[],x1,y,M,rl,W,pre,hb,R,_,_,_,hL,hw,ax,_,_,_,hR=>⟨trivial,hR M rl W y .nil hL ⟨pre,hw⟩ p5_ .refl⟩
 |x::os,x1,y,M,rl,W,pre,hb,R,hd,hp,nd,hL,hw,ax,hB,w9,jq,hR=>by
  refine aO_;show lpB fJ! M _;simp only[AJ]at hB hR;rw[AH,AX]at nd;have jn:=hd x AL;refine d2v (c1r k9 jn w9) dz_ dz_
  .have c':=DH c;have ee:iF wd hy_=x::iF wd os:=by unfold iF;rw[CM AC!]
   refine Nu (gV rfl rfl (c9v hL hw kI! jn c'.1 ax a! λM1 gg W1 hs KY hF=>?_));show Kf N! F! lpB ap_ fJ! M1 R;have hq:=hF p (by rw[w9];simp) jq;refine uV k9 os x1 pp_ M1 gg W1 (pre++[x.nm]) a9_ R pq! y5_ nd.2 KY (sS hs hw kI!) (ax.stp hs) a! (hq.1.trans w9) hq.2 (λM' af W' y' g1 g2 g3 g4 g5=>hR M' af W' y' (by rw[ee];exact .cons hs g1) g2 g3 AC_ (hF.trans g5));rcases AR.mp z with z|z
   .exact hp y d0_ z
   .rw[AV]at z;exact nd.1 y6!
  .have c':=HB c;have ee:iF wd hy_=iF wd os:=by unfold iF;rw[CN AC!]
   show Kf N! F! lpB ap_ fJ! M R;exact uV k9 os x1 pp_ M rl W pre a9_ R pq! ps! nd.2 hL hw p5_ a! w9 jq (λM' af W' y' g1 g2 g3 g4 g5=>hR M' af W' y' (by rw[ee];exact g1) g2 g3 AC_ g5)
def d6q{N:Mh}(B:N w=none)(Y:Cb N w D_ wt=none)(h3:Cb p6! wt D_ wn=none):
  ∃rl,Dq (Cb AD_ w AE!) w rl W0/\(∀b,N b≠none->Cb AD_ w AE! b=N b/\rl b=.oth)/\Cb AD! wn D_ w=some D_:=by
 have e1:w≠wt:=Bj (N:=Cb N w D_) ht_ Y;have e2:w≠wn:=Bj (N:=p6_) (by rw[mup_ne e1,mup_same];simp) h3;have e3:wt≠wn:=Bj (N:=p6_) ht_ h3;have ah:∀b,N b≠none->b≠w/\b≠wt/\b≠wn:=λb O=>by
  have a1:b≠w:=Bj O B;have a2:b≠wt:=Bj (N:=Cb N w D_) (by rw[hK_];exact O) Y;exact⟨a1,a2,Bj (N:=p6_) (by rw[mup_ne a2,hK_];exact O) h3⟩
 refine⟨λc=>if c=w then .w else if c=wt then .wt else if c=wn then .wn else .oth,⟨wt,wn,λ_=>w,⟨⟨3,mup_same⟩,p7!,p7!,am_,j!,?_,?_,bg_⟩⟩,bg_,?_⟩
 .rw[mup_ne (AK e1),mup_ne e3,mup_same];rfl
 .rw[mup_ne (AK e2),mup_same];rfl
 .show(if wt=w then _ else _)=_;rw[AI (AK e1),j!]
 .show(if wn=w then _ else _)=_;rw[AI (AK e2),AI (AK e3),j!]
 .by_cases a1:b=w
  .rw[a1,mup_same];simp
  .rw[hK_];by_cases a3:b=wn
   .rw[a3,mup_same];simp
   .rw[mup_ne a3];by_cases a2:b=wt
    .rw[a2,mup_same];simp
    .exact absurd (by simp[a1,a2,a3]) O
 .obtain⟨a1,a2,a3⟩:=ah b O;exact⟨by rw[hK_,mup_ne a3,mup_ne a2,hK_],by simp[a1,a2,a3]⟩
 .rw[mup_ne e2,mup_ne e1,mup_same]
def b8p:oE W0 0:=⟨AY _,AY _,λ_=>AY _⟩
def d2u:((hB_).map b!).Nodup:=by
 show[D.str "rows",.str "texts",p7_].Nodup;refine AX.mpr ⟨?_,AX.mpr ⟨?_,AF!⟩⟩
 .intro z;rcases AE.mp z with z|z
  .exact c4d z
  .exact c4e p8!
 .intro z;exact c3v p8!
def c1w:∀q∈k3 a b c,(Ha q.1).isSome=true:=λq hq=>by
 rcases AE.mp hq with rfl|hq
 .rfl
 .rcases AE.mp hq with rfl|hq
  .rfl
  .rw[kB!];rfl
def b0d:a6z=Ao uH_
 (Ao uI!
 (Ao (Fn eY! N! lpB)
 bK!)):=rfl
def c2u{f:WE->WS}{ρ:Ag}{K:v_}(hK:∀w M' rl,M w=none->Dq M' w rl W0->pe!->K cn! M'):
  aL uH! ρ M K:=by
 intro w hw;refine pc (x:=.str "rows") rfl ?_;rw[Fa (f:=Hq An) (d:=k9_) rfl];refine pc (x:=.str "texts") rfl ?_;intro wt ht;refine pc (x:=p7_) rfl ?_;intro wn hn;obtain⟨rl,B,Y,h3⟩:=d6q hw ht hn;show _/\_;exact⟨h3,by show 3<=1000;decide,c1w,d2u,hK w _ rl hw B Y⟩
def b8t{ops:o_}(nd:ei_)(nn:y8!)(hl:ej!)(hd:hp!)
  (hR:∀w M' rl W',M w=none->Run W0 (iF hp_ aY_) W'->Dq M' w rl W'->y8_->oE W' 1500->pe!->R cn! M'):jE ck! M R:=by
 refine m_;rw[b0d];have hp:(aY_).Perm ops:=Ev ops;show Ao (Az 1 (aL _)) _ pz! M _;unfold Ao Az;refine c2u (f:=λ_=>Eu) λw M1 rl hw hL fr=>?_;show Ba 1 Sg a3_ [bS_,w!,none,none] M1 _;refine a2e (a:=.lst cM_) rfl (a4t nd hl hd λp M2 ep db cx uw=>?_);have rp:rl p=.oth:=HJ λz=>hL.live z db;have WN:Dq M2 w rl W0:=hL.keep λc hc=>uw c λz=>hc (by rw[z];exact rp);show Fn eY! N! lpB AG! M2 _;unfold Fn Et;refine a2e (a:=.lst cM_) rfl (lT nd hl ?_);show Kf N! F! lpB fs_ AG! M2 _;refine uV (wd:=pc_) (jN aY_ [] [] λx=>.inl bJ_) aY_ _ none M2 rl W0 [] 0 _ (λx L=>hd x za!) zb! zb_ WN a9h b8p kI_ cx rp λM' af W' y' g1 g2 g3 g4 g5=>?_;refine hR w M' af W' hw g1 g2 g3 (g4.mono kI_) λb O=>?_;obtain⟨e1,e2⟩:=fr b O;have e3:M2 b=M1 b:=uw b λz=>by rw[<-e1,z,db]at O;exact O rfl
 obtain⟨e4,e5⟩:=g5 b zc! e2;exact⟨e4.trans (e3.trans e1),e5⟩
def oC(h:U!)(L:cb_)(hk:fy!)(hl:p8_)(hj:yp_)(hR:R v M):Nc [bq_,x] M R:=by
 refine m_;show Cn (jP _ (Dx 1 [] uM! _ _ _)) kT_ M _;unfold Cn jP Dx Et;rw[b2q (ρ:=kT_) h rfl (fx:=Aa 1) rfl hk L];refine AG_;refine Fx (λd=>match d with|.tup [_,_,.bl b]=>b|_=>false) (λd=>match d with|.tup [_,c,_]=>c|_=>.non) trivial _ _ bR_ ?_
 .show"!H";refine⟨[hJ!],rfl,hk_,du!⟩
  .have e1:fT dK_ [hJ!]=some q.2.2:=by
    have:f2 Ar n! V! [hJ!]=some pT!:=d1b;show"!L"
   unfold Gc;rw[e1];exact hK
  .have e1:f2 Ar n! t_ [hJ!]=some q.2.1:=d1c;rw[Fa e1];exact hK
 .have e2:((((aF_).map Ci).filter λd=>match d with|.tup [_,_,.bl b]=>b|_=>false).map λd=>match d with|.tup [_,c,_]=>c|_=>.non)=(dt!).map kt_:=by
   unfold yB;rw[GG,CB];rfl
  rw[e2];show Hi (Ug hl_ _) _;rw[hj];exact hR
def a2a:∀(l:ad!),(∀q∈l,∃c:Nat,q.2.1=.str am!)->∃cs:List Nat,l.map kt_=cs.map eA/\cg!=P!
 |[],_=>xc!
 |q::l,h=>by
  obtain⟨cs,e1,e2⟩:=a2a l λx L=>h x bQ_
  obtain⟨c,e⟩:=h q AL;exact⟨c::cs,by rw[AH,AH,e1,e];rfl,by rw[AJ,AJ,e2]⟩
end
end K26
namespace K26
open PySem L2 DL
variable{t:Ca}
abbrev B60:Nat:=1000000000000000000000000000000000000000000000000000000000000
def wK{i:Int}(h:dP_<B60):La [be!]=some E!:=by
 have:iL_<1000000000000000000000000000000000000000000000000000000000000:=by unfold B60 at h;split<;>omega
 push_cast[La,lE,this]
def wM{i k:Int}(h:dP_<B60)(h0:0<=i)(B:i<k):Mw [be!,g8!]=some E!:=by push_cast[Mw,lG,wK h,h0,B]
def wL{i:Int}(h:dP_<B60)(B:1<=i):Ht [be!]=some E!:=by push_cast[Ht,Yo,wK h,B]
def eZ(h:NameG x):Ia [x]=some E!:=by
 obtain⟨a,b,rfl,B,Y,h3,h4⟩:=h
 push_cast[Ia,dW,wM (i:=a) (k:=16) fJ_ B Y,wL (i:=b) fJ_ h3]
def gM(h:b8r x):Hz [x]=some E!:=by
 obtain⟨a,b,c,rfl,B,Y,h3,h4,h5,h6⟩:=h
 push_cast[Hz,Vh,eZ ⟨a,b,rfl,B,Y,h3,h4⟩,wM (i:=c) (k:=16) fJ_ h5 a!]
def Zz(h:Fz x):Mv [x]=some E!:=by
 have n:∀s,Ia [dm!]=some au_:=λs=>by push_cast[Ia,dW]
 rcases h with rfl|rfl|h
 .push_cast[Mv,Xc,n,Nd]
 .push_cast[Mv,Xc,n,Nd]
 .push_cast[Mv,Xc,eZ h]
def sC(h:Ye x):Jx [x]=some E!:=by
 rcases h with rfl|h
 .push_cast[Jx,Su]
 .obtain⟨a,b,rfl,_⟩:=id h
  push_cast[Jx,Su,eZ h]
def b7l(h:Uk x):Lh [x]=some E!:=by
 rcases h with rfl|h
 .push_cast[Lh,Vj]
 .obtain⟨a,b,c,rfl,_⟩:=id h
  push_cast[Lh,Vj,gM h]
def c2q{i:Int}(h0:0<=i)(B:i<=3):Qb [be!]=some E!:=by push_cast[Qb,lF,wM (i:=i) (k:=4) fJ_ h0 a!]
def c8l{s:Str}(h:zR s=true)(B:1<=ah_)(Y:jR_):Se [dm!]=some E!:=by
 unfold zR at h;rw[BH,BM]at h;have hl:ah_<=big:=by unfold big;omega
 have hc:=nS ch_ rfl s.cps.toList h.2;have gq:(List.map fs! s.cps.toList).all id=true:=by simp
 have z1:1<=ke!:=by omega
 have z2:ke!<=16:=by omega
 have hz:gY_<=big:=by simpa[Str.length]using hl
 have KZ:Jq 1 [] (c8e n!) S! aL! il_ [gZ!]=some (.lst AH!):=by
  show(if(s.cps.toList.map λc=>D.str am!).length<=big then Option.map D.lst (Jy S! aL! il_ ch_ (s.cps.toList.map λc=>.str am!))else none)=_;rw[AU,AQ hz,hc];rfl
 have WO:Yd [.lst AH!]=some E!:=by
  simp only[Yd,nX,GV,gq]
 push_cast[Se,qS,KZ,hl,z1,z2,WO]
def c8h(nd:t.nd):Ux t t.A0=some Mv/\Ux t t.A5=some Jx/\Ux t t.A6=some Lh/\Ux t t.A7=some Se/\Ux t t.A8=some Hz/\
  Ux t t.A9=some Ht/\Ux t t.B0=some Qb/\Ux t t.B1=some La/\Ux t t.B2=some Ia:=by
 unfold Ca.nd at nd;simp only[AX,AE,BO,DN,GO]at nd;unfold Ux;refine⟨?_,?_,?_,?_,?_,?_,?_,?_,?_⟩<;>grind
def gR(ρ:Ag)(ny:ρ=p9!):∀(cs:p9_),(∀c∈cs,∃g,Ux t c.1=some g/\g [c.2]=some E!)->
  Jy eG! aL! in! ρ lc!=some j2!/\(lc!).length=cg!
 |[],_=>bJ_
 |c::cs,h=>by
  have ih:=gR ρ ny cs λx L=>h x bQ_;obtain⟨g,B,Y⟩:=h c AL;subst ny;refine⟨?_,by simp only[AH,Ul,AJ,ih.2]⟩;simp only[AH,Ul,Jy,ih.1];simp[Uj,Dl,eW,Ad,Aa,An,B,Y]
def sJ:∀(cs:p9_),Wu wT_=some wU!
 |[]=>rfl
 |c::cs=>by simp only[AH,Wu,sJ cs,GV]
def Qs(cs:p9_)(h:∀c∈cs,∃g,Ux t c.1=some g/\g [c.2]=some E!)(hl:cg!<=1000):
  Nq t [.tup qa_,.tup qa!]=some E!:=by
 have hc:=gR p9! rfl cs h;have hz:cg!<=big:=by unfold big;omega
 have KZ:Jq 2 [] (c8d s_ n!) eG! aL! in! [some (.tup qa_),some (.tup qa!)]=some (.lst j2!):=by
  show(if(lc!).length<=big then Option.map D.lst (Jy eG! aL! in! p9! lc!)else none)=_;rw[hc.2,AQ hz,hc.1];rfl
 have gq:Yd [.lst j2!]=some E!:=by
  simp only[Yd,sJ,GV];simp
 push_cast[Nq,fU,KZ,gq]
def a1v(x:D)(r:b_):Cy (.tup (x::r)) dr! none=some (.tup r):=by
 have B:HT.sIx (aC!+1) 0 dr!=1:=by
  simp[HT.sIx]
 have Y:HT.sIx (aC!+1) (aC!+1) none=aC!+1:=by simp[HT.sIx]
 simp[Cy,Ge,B,Y]
def Qe{k:Str}(hk:(gc_).lookup k=some (.tup fs))(hp:Nq t [.tup r,.tup fs]=some E!)(hc:k≠"cut"):Pf t [.tup cK!]=some E!:=by
 have h0:¬(g8_+1=0):=by omega
 have he:Cg (.int (g8_+1)) G!=some au_:=by simp[Cg,Co,Oa,Ir,h0]
 push_cast[Pf,dX,he,c2k,hk,a8q,hp,a1v,hc]
def c8o(nd:t.nd)(h:DG d):Pf t [d]=some E!:=by
 obtain⟨i1,i2,i3,i4,i5,i6,i7,i8,i9⟩:=c8h nd;have two:∀{a b:Addr×D} {P:qb!},P a->P b->∀c∈ag!,P c:=λB Y c hc=>by
  simp only[AE,BO,DN]at hc;rcases hc with rfl|rfl
  .exact B
  .exact Y
 have xa:∀{a b c:Addr×D} {P:qb!},P a->P b->P c->∀x∈cV_,P x:=λB Y h3 c hc=>by
  simp only[AE,BO,DN]at hc;rcases hc with rfl|rfl|rfl
  .exact B
  .exact Y
  .exact h3
 have one:∀{a:Addr×D} {P:qb!},P a->∀x∈[a],P x:=λB c hc=>by rw[AV.mp hc];exact B
 cases h with
 |@put a b B Y=>exact Qe rfl (Qs [fL_,(t.A5,b)] (two fM! ⟨_,i2,sC Y⟩) c_) o!
 |@move a b c B Y h3=>exact Qe rfl (Qs [fL_,(t.A0,b),(t.A5,c)] (xa fM! ⟨_,i1,Zz Y⟩ ⟨_,i2,sC h3⟩) c_) o!
 |@drop a B=>exact Qe rfl (Qs [fL_] (one fM!) c_) o!
 |@write a b s B Y h3 h4 h5=>exact Qe rfl (Qs [fL_,(t.A6,b),(t.A7,.str s)] (xa fM! ⟨_,i3,b7l Y⟩ ⟨_,i4,c8l h3 h4 h5⟩) c_) o!
 |@cut a x y z m B Y h3 h4=>
  have hz:0<=z:=by obtain⟨_,_,_,e,_,_,_,_,q,_⟩:=Y;cases e;exact q
  have hp:=Qs (t:=t) [fL_,(t.A8,.tup jK_),(t.A9,.int m)] (xa fM! ⟨_,i5,gM Y⟩ ⟨_,i6,wL fJ_ h3⟩) c_;have he:Cg (.int 4) G!=some au_:=by simp[Cg,Co,Oa,Ir]
  have hk:(gc_).lookup ("cut":Str)=some (.tup rU_):=rfl;simp only[AH,FM]at hp
  push_cast[Pf,dX,he,c2k,hk,a8q,hp,a1v,h4]
 |@set a p n B Y h3 h4=>exact Qe rfl (Qs [fL_,(t.B0,.int p),(t.B1,.int n)] (xa fM! ⟨_,i7,c2q Y h3⟩ ⟨_,i8,wK h4⟩) c_) o!
 |@undo a B=>exact Qe rfl AJ! o!
 |@redo a B=>exact Qe rfl AJ! o!
def d7d{h n m:Int}(nd:t.nd)(B:0<=h)(Y:h<16)(h3:1<=n)(h4:n<=2000)(h5:1<=m)(h6:m<=1000)(hd:DG d):Eh t [.tup [aX_,aN_,d8!,d]]=some E!:=by push_cast[Eh,Vi,eZ ⟨h,n,rfl,B,Y,h3,h4⟩,wL (i:=m) fJ_ h5,c8o nd hd]
def Xk(h:NameG x):Co x=true/\Oa x<=1:=by obtain⟨a,b,rfl,_⟩:=h;simp[Co,Eg,Oa,Hx]
def Jj(h:Fz x):Co x=true/\Oa x<=1:=by
 rcases h with rfl|rfl|h
 .simp[Co,Oa]
 .simp[Co,Oa]
 .exact Xk h
def sX(h:Ye x):Co x=true/\Oa x<=1:=by
 rcases h with rfl|h
 .simp[Co,Oa]
 .exact Xk h
def a6q(h:Uk x):Co x=true/\Oa x<=1:=by rcases h with rfl|⟨a,b,c,rfl,_⟩<;>simp[Co,Eg,Oa,Hx]
def d3l(h:DG d):Co d=true/\Oa d<=2:=by
 cases h with
 |put B Y=>simp only[Co,Eg,Oa,Hx,Jj B,sX Y,FD,IM];have:=(fN!).2;have:=(sX Y).2;omega
 |move B Y h3=>simp only[Co,Eg,Oa,Hx,Jj B,Jj Y,sX h3,FD,IM];have:=(fN!).2;have:=(Jj Y).2;have:=(sX h3).2;omega
 |drop B=>simp only[Co,Eg,Oa,Hx,Jj B,FD,IM];have:=(fN!).2;omega
 |write B Y=>simp only[Co,Eg,Oa,Hx,Jj B,a6q Y,FD,IM];have:=(fN!).2;have:=(a6q Y).2;omega
 |cut B=>simp only[Co,Eg,Oa,Hx,Jj B,FD,IM];have:=(fN!).2;omega
 |set B=>simp only[Co,Eg,Oa,Hx,Jj B,FD,IM];have:=(fN!).2;omega
 |undo B=>simp only[Co,Eg,Oa,Hx,Xk B,FD,IM];have:=(Xk B).2;omega
 |redo B=>simp only[Co,Eg,Oa,Hx,Xk B,FD,IM];have:=(Xk B).2;omega
variable{t:Ca}
nonrec def hs(os:o_)(h:Int):List Op:=os.filter λo=>decide (o.h=h)
structure Chn(l:o_):Prop where
 num:∀(i:Nat) (o:Op),l[i]?=some o->o.n=cP_+1
 tim:l.Pairwise λa b=>a.tm<b.tm
structure OpF(o:Op):Prop where
 hh:o.h=0\/o.h=5\/o.h=15
 t1:1<=o.tm
 t2:o.tm<=1000
 n1:1<=o.n
 n2:o.n<=2000
 dg:DG o.d
structure Hist(os:o_):Prop where
 ch:∀h,Chn ld!
 op:∀o∈os,OpF o
def Chn.nil:Chn []:=⟨λi o e=>by simp at e,jr_⟩
def Chn.snoc{l:o_}{o:Op}(h:Chn l)(e:o.n=(P!:Nat)+1)(ht:∀x∈l,x.tm<o.tm):Chn (l++[o]):=by
 refine⟨λi x L=>?_,?_⟩
 .rcases EO i P! with c|c
  .rw[DC c]at L;exact h.num i x L
  .rw[CD c]at L;rcases Nat.eq_zero_or_pos (i - P!)with z|z
   .rw[z]at L;simp at L;subst L;rw[e];omega
   .rw[CL bJ!]at L;cases L
 .rw[List.pairwise_append];exact⟨h.tim,List.pairwise_singleton _ _,λa ha b O=>by rw[lq!];exact ht a ha⟩
def Fi{a b:o_}{h:Int}:hs (a++b) h=hs a h++hs b h:=by unfold hs;rw[JI]
def Kz{o:Op}{h:Int}:hs [o] h=if o.h=h then[o]else[]:=by
 unfold hs;by_cases c:o.h=h
 .rw[AQ c,CM AK_];rfl
 .rw[AI c,CN AK_];rfl
def eM{os:o_}{h:Int}{o:Op}:o∈hs os h↔o∈os/\o.h=h:=by unfold hs;rw[DO];simp
def Hist.nil:Hist []:=⟨λh=>Chn.nil,λo ho=>by cases ho⟩
def Hist.snoc{os:o_}{o:Op}(h:Hist os)(hf:OpF o)(e:o.n=((hs os o.h).length:Nat)+1)(ht:∀x∈os,x.h=o.h->x.tm<o.tm):Hist (os++[o]):=by
 refine⟨λk=>?_,aU_⟩
 .rw[Fi,Kz];by_cases c:o.h=k
  .rw[AQ c];subst c;exact(h.ch _).snoc e λx L=>ht x (eM.mp L).1 (eM.mp L).2
  .rw[AI c,BL];exact h.ch k
 .rcases AR.mp L with z|z
  .exact h.op x z
  .rw[bX_];exact hf
structure HW(i:Nat)(os:o_)(c0 c1 c2 t0 t1 t2:Int):Prop where
 hist:Hist os
 len:aQ!=i
 q0:c0=AM!
 q1:c1=AN!
 q2:c2=AN_
 u0:∀x∈os,x.h=0->x.tm<=t0
 u1:∀x∈os,x.h=5->x.tm<=t1
 u2:∀x∈os,x.h=15->x.tm<=t2
 b0:0<=t0/\t0<=3*i
 b1:0<=t1/\t1<=3*i
 b2:0<=t2/\t2<=3*i
def HW.nil:HW 0 [] 0 0 0 0 0 0:=⟨.nil,rfl,rfl,rfl,rfl,qd!,qd!,qd!,J!,J!,J!⟩
def OpF.ok{o:Op}(h:OpF o):a5x o.v:=⟨o.h,o.n,o.tm,o.d,rfl,by rcases h.hh with z|z|z<;>omega,by rcases h.hh with z|z|z<;>omega,h.n1,h.n2,h.dg⟩
section
variable{i:Nat}{os:List Op}{c0 c1 c2 t0 t1 t2:Int}{m:Int}{dd:D}
def nI(os:o_)(h:Int):(ld!).length<=aQ!:=FO _ _
def HW.opok(hw:ld_):∀o∈os.map Op.v,a5x o:=λo ho=>by
 obtain⟨x,L,rfl⟩:=AZ.mp ho;exact(hw.hist.op x L).ok
def c7j(m:Int):0<=m / 3%3/\m / 3%3<3:=⟨EI _ c!,DP _ c!⟩
def HW.step0(hw:ld_)(h0:0<=m)(hi:i<100)(hd:DG dd):HW a2! (os++[⟨0,c0+1,t0+1+m / 3%3,dd⟩]) (c0+1) (c1) (c2) (t0+1+m / 3%3) t1 t2:=by
 obtain⟨m1,m2⟩:=c7j m;have hc:=hw.q0;have O:=hw.b0;have hl:=nI os 0;rw[hw.len]at hl;refine⟨hw.hist.snoc ⟨cX!,by show 1<=t0+1+m / 3%3;omega,by show t0+1+m / 3%3<=1000;omega,by show 1<=c0+1;omega,by show c0+1<=2000;omega,hd⟩ (by show c0+1=AM!+1;omega) (λx L hh=>by have:=hw.u0 x L hh;show x.tm<t0+1+m / 3%3;omega),qd_,by rw[Fi,Kz,j!,AT];have:=hw.q0;simp;omega,by rw[Fi,Kz,AI AP!,BL];exact hw.q1,by rw[Fi,Kz,AI AQ!,BL];exact hw.q2,cS!,cS!,cS!,qe_,qf!,qf_⟩
 .rcases AR.mp L with z|z
  .have:=hw.u0 x z hh;omega
  .rw[bX_];exact EW _
 .rcases AR.mp L with z|z
  .exact hw.u1 x z hh
  .rw[bX_]at hh;exact absurd hh AP!
 .rcases AR.mp L with z|z
  .exact hw.u2 x z hh
  .rw[bX_]at hh;exact absurd hh AQ!
def HW.step1(hw:ld_)(h0:0<=m)(hi:i<100)(hd:DG dd):HW a2! (os++[⟨5,c1+1,t1+1+m / 3%3,dd⟩]) (c0) (c1+1) (c2) t0 (t1+1+m / 3%3) t2:=by
 obtain⟨m1,m2⟩:=c7j m;have hc:=hw.q1;have O:=hw.b1;have hl:=nI os 5;rw[hw.len]at hl;refine⟨hw.hist.snoc ⟨.inr aB_,by show 1<=t1+1+m / 3%3;omega,by show t1+1+m / 3%3<=1000;omega,by show 1<=c1+1;omega,by show c1+1<=2000;omega,hd⟩ (by show c1+1=AN!+1;omega) (λx L hh=>by have:=hw.u1 x L hh;show x.tm<t1+1+m / 3%3;omega),qd_,by rw[Fi,Kz,AI AR!,BL];exact hw.q0,by rw[Fi,Kz,j!,AT];have:=hw.q1;simp;omega,by rw[Fi,Kz,AI AR_,BL];exact hw.q2,cS!,cS!,cS!,qe_,qf!,qf_⟩
 .rcases AR.mp L with z|z
  .exact hw.u0 x z hh
  .rw[bX_]at hh;exact absurd hh AR!
 .rcases AR.mp L with z|z
  .have:=hw.u1 x z hh;omega
  .rw[bX_];exact EW _
 .rcases AR.mp L with z|z
  .exact hw.u2 x z hh
  .rw[bX_]at hh;exact absurd hh AR_
def HW.step2(hw:ld_)(h0:0<=m)(hi:i<100)(hd:DG dd):HW a2! (os++[⟨15,c2+1,t2+1+m / 3%3,dd⟩]) (c0) (c1) (c2+1) t0 t1 (t2+1+m / 3%3):=by
 obtain⟨m1,m2⟩:=c7j m;have hc:=hw.q2;have O:=hw.b2;have hl:=nI os 15;rw[hw.len]at hl;refine⟨hw.hist.snoc ⟨.inr gE!,by show 1<=t2+1+m / 3%3;omega,by show t2+1+m / 3%3<=1000;omega,by show 1<=c2+1;omega,by show c2+1<=2000;omega,hd⟩ (by show c2+1=AN_+1;omega) (λx L hh=>by have:=hw.u2 x L hh;show x.tm<t2+1+m / 3%3;omega),qd_,by rw[Fi,Kz,AI AS!,BL];exact hw.q0,by rw[Fi,Kz,AI AT!,BL];exact hw.q1,by rw[Fi,Kz,j!,AT];have:=hw.q2;simp;omega,cS!,cS!,cS!,qe_,qf!,qf_⟩
 .rcases AR.mp L with z|z
  .exact hw.u0 x z hh
  .rw[bX_]at hh;exact absurd hh AS!
 .rcases AR.mp L with z|z
  .exact hw.u1 x z hh
  .rw[bX_]at hh;exact absurd hh AT!
 .rcases AR.mp L with z|z
  .have:=hw.u2 x z hh;omega
  .rw[bX_];exact EW _
end
section
variable{ρ:Ag}
def b4c{i:Nat}{fx fv:d_}{j:Int}{ds:b_}{k:Nat}(hv:fv ρ=some d)(L:AU_)(hl:qg!)(hk:Ig ds.length j=some k):a3o i fx fv ρ=some (.nx wX_):=by unfold a3o;rw[hv,L,hl];show(ou!).map _=_;rw[hk];rfl
def vU{i:Nat}{fx:d_}{j:Int}(L:AU_)(hl:qg!)(h:Gf ds j=some d):Wp i fx ρ=some d:=by unfold Wp;rw[L,hl];exact h
def c9n{i:Nat}{f:d_}{ds:b_}(hf:cG_)(hl:qg!)(O:f_<big):Zg i f ρ=some wV_:=by unfold Zg;rw[hf,hl];show(if f_<big then _ else _)=_;rw[AQ O]
def c5k{fs:an!}{ds:b_}(h:hf!)(hl:xr!):Bz fs ρ=some di!:=by unfold Bz;rw[h];show xr_=_;rw[xs!]
def c2l{f:d_}(h:cG_)(n:Ii d=true):cI f ρ=some d:=by unfold cI;rw[h];show(if Ii d=true then _ else _)=_;rw[AQ n]
end
def b5t{j:Int}:Ih (.int 7) dk!=some (.int (7*j)):=rfl
def b2e{ns:D!}{base j m kk a c t:Int}{os cs ts:b_}{dd:D}{k:Nat}(em:Fe [do_,.int (base+7*j)]=some bP!)(ed:Tl [do_,.int (base+7*j+1),.lst os,.int 5]=some dd)(nd:Ii dd=true)(z:m%3=kk)
  (hc:Gf cs kk=some (.int c))(ht:Gf ts kk=some (.int t))(kc:Ig cs.length kk=some k)(kt:Ig ts.length kk=some k)(a8:Gf AV! kk=some (.int (c+1)))(WQ:Gf AW_ kk=some AW!)
  (ha:Gf [D.int 0,.int 5,.int 15] kk=some (.int a))(O:aQ!<big):
  a6e [X!,ao_,some N,some (.lst os),some (.lst cs),some (.lst ts),some dk!,x7,x8,x9]=some (.nx [X!,ao_,some N,some (.lst (os++[.tup [.int a,.int (c+1),.int (t+1+m / 3%3),dd]])),some (.lst AV!),some (.lst AW_),some dk!,some bP!,some (.int kk),some dd]):=by
 refine(Cm (Pi (nK (Gq rfl (Gq AX_ rfl)) em))).trans ?_;refine(Cm (Pi (Mm rfl rfl ((a4o c!).trans g0_)))).trans ?_;refine(Cm (b4c (Mm (vU rfl rfl hc) rfl rfl) rfl rfl kc)).trans ?_;refine(Cm (b4c (Mm (Mm (vU rfl rfl ht) rfl rfl) (Mm (Mm rfl rfl rfl) rfl (a4o c!)) rfl) rfl rfl kt)).trans ?_;refine(Cm (Pi (c2l (nK (Gq rfl (Gq (Mm AX_ rfl rfl) (Gq rfl oK_))) ed) nd))).trans ?_;exact c9n (c5k (Gq (Mm rfl rfl ha) (Gq (vU rfl rfl a8) (Gq (vU rfl rfl WQ) oK_))) rfl) rfl O
def a9k(ns:D!)(base:Int)(N:Nat)(hN:N<=100):∃os:List Op,Sf [do_,.int base,.int N]=some lg!/\aQ!=N/\Hist os:=by
 let P:Nat->Ag->Prop:=λi ρ=>∃(os:o_) (c0 c1 c2 t0 t1 t2:Int) (x6 x7 x8 x9:ad_),ρ=AZ_/\aQ!=i/\HW i os c0 c1 c2 t0 t1 t2
 obtain⟨ρ',e,os,c0,c1,c2,t0,t1,t2,x6,x7,x8,x9,rfl,hl,hw⟩:=bO (bnd:=Dk 6) (q:=a6e) P fn! 0
  lh!
  ⟨[],0,0,0,0,0,0,none,none,none,none,rfl,rfl,HW.nil⟩ (by
   rintro j d ρ hd ⟨os,c0,c1,c2,t0,t1,t2,x6,x7,x8,x9,rfl,hl,hw⟩;unfold Hh at hd;rw[BS]at hd;obtain⟨i',dw,rfl⟩:=AO.mp hd;obtain⟨am,he⟩:=BA.mp dw;rw[HE]at he;subst he;rw[EY]at am;have ho:∀o∈os.map Op.v,a5x o:=hw.opok;have lu:(ap_).length<=100:=by rw[AU];omega
   obtain⟨m,em,m0,_⟩:=Sz ns (k:=base+7*(j:Nat));obtain⟨dd,ed,hd⟩:=c2w ns (base:=base+7*(j:Nat)+1) (most:=5) ho lu c! c!;have nd:=a5n hd;have O:(ap_).length<big:=by unfold big;omega
   have KU:m%3=0\/m%3=1\/m%3=2:=by omega
   rcases KU with z|z|z
   .exact⟨_,_,rfl,qh!,_,_,_,_,_,_,_,_,_,_,_,qh_,ee!,hw.step0 a! a! hd⟩
   .exact⟨_,_,rfl,qh!,_,_,_,_,_,_,_,_,_,_,_,qh_,ee!,hw.step1 a! a! hd⟩
   .exact⟨_,_,rfl,qh!,_,_,_,_,_,_,_,_,_,_,_,qh_,ee!,hw.step2 a! a! hd⟩)
 refine⟨os,?_,by simpa[Hh]using hl,hw.hist⟩;have hr:-1000<=(N:Int)/\(N:Int)<=100000:=by omega
 have hf:oQ (Kd w_) cz! a6e lh!=some (.nx AZ_):=by
  have hi:Kd w_ lh!=some fn!:=by
   simp[Kd,Aa,hr]
  unfold oQ;rw[hi];exact e
 have hq:lJ A0_=some (.rt lg!):=by
  show sSeq iT! (sSeq (Ss 4 i4!) (sSeq (Ss 5 i4!) (sSeq (oQ (Kd w_) cz! a6e) (Cv G_)))) _=_;rw[Cm (ρ':=[X!,ao_,hM_,eo_,none,none,none,none,none,none]) rfl];rw[Cm (ρ':=[X!,ao_,hM_,eo_,qg_,none,none,none,none,none]) rfl];rw[Cm (ρ':=lh!) rfl];rw[Cm hf];rfl
 unfold Sf Er;rw[gK_];show(match lJ A0_ with|some (.rt d)=>some d|some (.nx _)=>some .non|none=>none)=_;rw[hq]
def d2b{o:Op}(nd:t.nd)(h:OpF o):Eh t [o.v]=some E!:=by
 have a1:0<=o.h/\o.h<16:=by rcases h.hh with z|z|z<;>omega
 exact d7d nd a1.1 a1.2 h.n1 h.n2 h.t1 h.t2 h.dg
def b5s{β:Type}{f:Op->β}(hf:∀a b,f a=f b->a.h=b.h):∀(os:o_),(∀h,((ld!).map f).Nodup)->(os.map f).Nodup
 |[],_=>FX
 |o::os,H=>by
  have sub:∀h,(ld!).Sublist (hs hx_ h):=λh=>by unfold hs;exact(List.sublist_cons_self o os).filter _
  rw[AH,AX];refine⟨cN!,b5s hf os λh=>((sub h).map f).nodup (H h)⟩;obtain⟨x,L,e⟩:=AZ.mp z;have hh:=hf _ _ e;have H1:=H o.h;have:hs hx_ o.h=o::hs os o.h:=by unfold hs;rw[CM c_]
  rw[this,AH,AX]at H1;exact H1.1 (AZ.mpr ⟨x,eM.mpr ⟨L,hh⟩,e⟩)
def Hist.names{os:o_}(h:Hist os):(kG_).Nodup:=by
 refine b5s A1! os λk=>?_
 .show"#D";exact e.1
 .have hn:=(h.ch k).num;rw[GZ,JP,HH];intro i j hi hj NT e;have e1:=hn i _ (BB hi);have e2:=hn j _ (BB hj);show"#D";omega
def Hist.keys{os:o_}(h:Hist os):(os.map Op.key).Nodup:=by
 refine b5s A1! os λk=>?_
 .simp only[Op.key,DR]at e;exact e.2
 .rw[GZ,JP];refine(h.ch k).tim.imp λ{a b} lh e=>?_;simp only[Op.key,DR]at e;omega
end K26
namespace K26
open PySem L2 DL
open Classical
nonrec def Pu(f:WE)(ρ:Ag)(M:Mh)(d:D):Prop:=∀K:D->Mh->Prop,K d M->f ρ M K
nonrec def PuT(f:WT)(ρ:Ag)(M:Mh)(b:Bool):Prop:=∀K:Bool->Mh->Prop,K b M->f ρ M K
nonrec def PuF(g:WF)(ds:b_)(M:Mh)(d:D):Prop:=∀K:D->Mh->Prop,K d M->g ds M K
section
variable{M:Mh}{ρ:Ag}
def Ud{α:Type}{x:α}{R:pB!}(h:R x):Hi (some x) R:=h
def Cu{f:d_}(h:cG_):Pu (wl f) ρ M d:=λK hK=>by rw[Fa h];exact hK
def Od{a:Addr}{fs:aP_}{fo:WE}(h:Pu fo ρ M dh_)(hM:M a=some g4_)(hv:fs.lookup x=some v):Pu (Bu C x fo) ρ M v:=λK hK=>by
 unfold Bu;refine h _ ?_;have:Mx C x M dh_=some v:=by simp only[Mx,hM,CF,hv]
 rw[this];exact hK
def Ov{g:bV!}{fa fb:WE}(ha:Pu fa ρ M x)(O:Pu fb ρ M y)(hg:g M x y=some d):Pu (w2 g fa fb) ρ M d:=λK hK=>by
 unfold w2;refine ha _ (O _ ?_);rw[hg];exact hK
def lK{ep:Nat}{fo fa fb:WE}(ho:Pu fo ρ M y!)(ha:Pu fa ρ M y)(O:Pu fb ρ M z)(hp:bQ!)(hk:ck_)(hd:(hF!).getD z=d):Pu (Ob fo fa fb) ρ M d:=λK hK=>by
 have c:Il M y!=some kU_:=by simp[Il,hp]
 unfold Ob;refine ho _ ?_;rw[c];refine ha _ (O _ ?_);rw[c,hk];show K ((hF!).getD z) M;rw[hd];exact hK
def qU{g:hC_}{f:WE}(h:Pu f ρ M x)(hg:g M [x]=some d):Pu (w1 g (Ac f Al)) ρ M d:=λK hK=>by
 unfold w1 Ac Al;refine h _ ?_;show Hi (g M [x]) λd=>K d M;rw[hg];exact hK
def lL{g:WF}{f1:WE}{a:D}(B:li_)(hg:PuF g [a] M d):Pu (Ba 1 g (Ac f1 Al)) ρ M d:=λK hK=>by
 unfold Ba Ac Al;exact B _ lj!
def Vm{g:WF}{f1 f2:WE}{a:D}(B:li_)(Y:Pu f2 ρ M b)(hg:PuF g ag! M d):Pu (Ba 2 g (Ac f1 (Ac f2 Al))) ρ M d:=λK hK=>by
 unfold Ba Ac Al;exact B _ (Y _ lj!)
def b4f{g:WF}{f1 f2 f3:WE}{a:D}(B:li_)(Y:Pu f2 ρ M b)(h3:Pu f3 ρ M c)(hg:PuF g cV_ M d):Pu (Ba 3 g (Ac f1 (Ac f2 (Ac f3 Al)))) ρ M d:=λK hK=>by
 unfold Ba Ac Al;exact B _ (Y _ (h3 _ lj!))
def Pp{g:WF}{fo f1:WE}{a:D}(h0:Pu fo ρ M ax_)(ho:Gi C m M ax_)(B:li_)(hg:PuF g [aV_,a] M d):Pu (Cf C m 2 g fo (Ac f1 Al)) ρ M d:=λK hK=>by
 unfold Cf Ac Al;exact h0 _ ⟨ho,B _ lj!⟩
def lM{f:WE}{b:Bool}(h:Pu f ρ M bH_):PuT (wT f) ρ M b:=λK hK=>by unfold wT;exact h _ hK
def a7c{f:ag_}{b:Bool}(h:f ρ=some b):PuT (Gc f) ρ M b:=λK hK=>by unfold Gc;rw[h];exact hK
def c6h{f:WT}{b:Bool}(h:PuT f ρ M b):PuT (Uy f) ρ M (!b):=λK hK=>by unfold Uy;exact h _ hK
def Sl{i:Nat}{f:WE}{q:WS}{R:q_}(h:Pu f ρ M d)(k:q bO_ M R):Ao (Az i f) q ρ M R:=by unfold Ao Az;exact h _ k
def Kr{f:WE}{R:q_}(h:Pu f ρ M d)(k:R aY! M):Cn f ρ M R:=by unfold Cn;exact h _ k
def sU{ft:WT}{q1 q2:WS}{R:q_}(h:A3!)(k:q1 ρ M R):Bs ft q1 q2 ρ M R:=by unfold Bs;refine h _ ?_;rw[j!];exact k
def kA{ft:WT}{q1 q2:WS}{R:q_}(h:lk!)(k:hk!):Bs ft q1 q2 ρ M R:=by unfold Bs;refine h _ ?_;rw[Z!];exact k
def aO{ft:WT}{q1 q2:WS}{R:q_}(h:lk!)(k:hk!):Ao (Bs ft q1 Eu) q2 ρ M R:=by unfold Ao;exact kA h k
nonrec def SfT(C:Addr)(x:Str)(fo:d_)(ρ:Ag)(y:D)(M:Mh)(Q:cP!):Prop:=wl fo ρ M λd M2=>match d with
 |.fn p=>(match M2 p with|some (.obj C' fs)=>C'=C/\bs!<100/\Q (Cb M2 p pP_)|_=>False)
 |_=>False
def iN{fo:d_}{f:WE}{R:q_}(h:f ρ M λy M1=>SfT C x fo ρ y M1 λM2=>R an_ M2):Hj C x ch! f ρ M R:=h
def kN{fo:d_}{f:WE}{q:WS}{R:q_}(h:f ρ M λy M1=>SfT C x fo ρ y M1 λM2=>q ρ M2 R):Ao (Hj C x ch! f) q ρ M R:=h
def So{fs va:aP_}{fo:d_}{Q:cP!}(h0:fI_)(hM:M p=some g4_)(hl:bs!<100)(hf:Dg x y fs=va)(k:Q (Cb M p (.obj C va))):SfT C x fo ρ y M Q:=by unfold SfT;rw[Fa h0];show(match M p with|some (.obj C' fs)=>C'=C/\bs!<100/\Q (Cb M p pP_)|_=>False);rw[hM];subst hf;exact⟨rfl,hl,k⟩
end
def c1m(h:ci!)(hd:Oa d<=40):Hw d d=some au_:=by unfold Hw;rw[h,cK d h,BK hd];rfl
def eJ:∀{ds:b_},(∀d∈ds,Co d=true)->Eg ds=true
 |[],_=>by simp[Eg]
 |d::ds,h=>by
  unfold Eg;rw[h d AL,eJ λx L=>h x bQ_];rfl
def nQ{n:Nat}:∀{ds:b_},(∀d∈ds,Oa d<=n)->Hx ds<=n
 |[],_=>by simp[Hx]
 |d::ds,h=>by
  unfold Hx;have B:=h d AL;have Y:=nQ λx L=>h x (AD d L);omega
def c1f{o:Op}(h:DG o.d):Co o.v=true/\Oa o.v<=5:=by
 obtain⟨B,Y⟩:=d3l h;show"!Q"
 .show Eg kw!=true;refine eJ λd hd=>?_;simp only[AE,BO,DN]at hd;rcases hd with rfl|rfl|rfl|rfl
  .rfl
  .rfl
  .rfl
  .exact B
 .show Hx kw!+1<=5;have:Hx kw!<=2:=nQ λd hd=>by
   simp only[AE,BO,DN]at hd;rcases hd with rfl|rfl|rfl|rfl
   .simp[Oa]
   .simp[Oa]
   .simp[Oa]
   .exact Y
  omega
nonrec def hF(ta wa:Addr)(out:D):List ci_:=[("ours",.int 3),("taken",.fn ta),("waiting",.fn wa),("outline",out)]
section
variable{ta wa:Addr}{out:D}
def hF1:List.lookup A4! dB_=some (D.int 3):=by kernel_rfl
def hF2:List.lookup A4_ dB_=some (D.fn ta):=by kernel_rfl
def hF3:List.lookup A5! dB_=some (D.fn wa):=by kernel_rfl
def hF4:List.lookup qj! dB_=some out:=by kernel_rfl
def hM1:List.lookup (Str.ofString "have") dB_=none:=by kernel_rfl
def hP1:Dg A4! aC_ []=[fO_]:=by kernel_rfl
def hP2:Dg A4_ (.fn ta) [fO_]=ll!:=by kernel_rfl
def hP3:Dg A5! (.fn wa) ll!=ll_:=by kernel_rfl
def hP4:Dg qj! .non ll_=hF ta wa .non:=by kernel_rfl
def hP5:Dg qj! o2 dB_=hF ta wa o2:=by kernel_rfl
end
structure Fg(t:Ca)(M:Mh)(a ta wa:Addr)(out:D)(S:o_)(kl:D!)(ca:Int->Addr):Prop where
 ob:M a=some (.obj t.B3 dB_)
 tk:∃ep,M ta=some (.dct fP! ep)
 wt:M wa=some bW_
 cl:∀h∈kl,M hN_=some (.lst ((lm!).map Op.v))
 nk:kl.Nodup
 mem:∀h,h∈kl↔hs S h≠[]
 cw:∀h∈kl,ca h≠wa
 ci:∀h∈kl,∀h'∈kl,ca h=ca h'->h=h'
 len:qj_<=S.length
def Pe{g:Int->D}:∀{kl:D!} {x:Int},kget (kl.map λh=>(D.int h,g h)) (.int x)=if x∈kl then some (g x)else none
 |[],x=>by simp[kget]
 |k::kl,x=>by
  rw[AH];unfold kget;by_cases e:k=x
  .subst e;simp
  .rw[AI λz=>e (D.int.inj z),Pe];simp[AK e]
section
variable{t:Ca}{M:Mh}{a ta wa:Addr}{out:D}{S:List Op}{kl:List Int}{ca:Int->Addr}
def Fg.nob(hA:bF_)(hm:(dB_).lookup m=none):Gi t.B3 m M dh_:=by show(match M a with|some (.obj C' fs)=>C'=t.B3/\fs.lookup m=none|_=>False);rw[hA.ob];exact⟨rfl,hm⟩
def Fg.nol(hA:bF_){h:Int}(hh:h∉kl):hs S h=[]:=HJ λz=>hh ((hA.mem h).mpr z)
def wE{h:Int}(hA:bF_):PuF (Ik t) [aA_,aX_] M qk_:=λK hK=>by
 obtain⟨ep,ht⟩:=hA.tk;refine m_;show Cn sP! [u_,hO!] M _;by_cases c:h∈kl
 .have hl:iD M [.fn hN_]=some qk_:=by
   show((kO M (.fn hN_)).map λxs=>D.int i_)=_;simp only[kO,hA.cl h c,GV,AU]
  exact Kr (qU (lK lm_ ln! A7! ht (k:=ql_) rfl (by rw[Pe,AQ c];rfl)) hl) hK
 .have hl:iD M [k9_]=some qk_:=by rw[hA.nol c];rfl
  exact Kr (qU (lK lm_ ln! A7! ht (k:=ql_) rfl (by rw[Pe,AI c];rfl)) hl) hK
def sQ{o:Op}(hA:bF_):PuF (Lg t) ln_ M (.bl (decide (o.n<=fQ!))):=λK hK=>by
 refine m_;show Cn sS_ hO_ M _;exact Kr (Ov (Cu (uD o)) A8! rfl) hK
def a4y{o:Op}(hA:bF_):PuF (Mu t) ln_ M (.bl (o.n==fQ!+1)):=λK hK=>by
 refine m_;show Cn sT! hO_ M _;exact Kr (Ov (Cu (uD o)) (Ov A8! A8_ (d:=.int (fQ!+1)) rfl) (wH _ _)) hK
def uW{h:Int}(hA:bF_)(e:hs S h=[]):PuF (Np t) [aA_,aX_] M G!:=λK hK=>by
 refine m_;show Ao sU_ _ [u_,hO!] M _;unfold Ao;refine sU (lM (Ov (Pp cq! (hA.nob hM1) ln! (wE hA)) eu! ?_)) (Kr eu! hK);rw[e];exact wH _ _
def b1e{ρ:Ag}{R:v_}(hR:∀a ta wa M',M a=none->Fg t M' a ta wa .non [] [] (λ_=>a)->kz_->R dh_ M'):Oi t.B3 2 (Xs t) uZ! ρ M R:=by
 unfold Oi Ac Al;rw[Fa (f:=fC aC_) (d:=.int 3) rfl];refine⟨rfl,λa ha=>m_⟩;show Ao sL_ sN_ [u_,some aC_] A9! _;refine kN ?_;rw[Fa (f:=Aa 1) (d:=.int 3) rfl];refine So (fs:=[]) rfl mup_same c! hP1 ?_;generalize e1:Cb A9! a A9_=M1;have a1:M1 a=some A9_:=by rw[<-e1];exact mup_same
 have o1:∀b,b≠a->M1 b=M b:=λb O=>by rw[<-e1,bq!,bq!]
 refine kN ?_;intro ta QC;have xb:a≠ta:=Bj (by rw[a1];simp) QC;refine So (fs:=[fO_]) rfl ((mup_ne xb).trans a1) c! hP2 ?_;generalize e2:Cb (Cb M1 ta D_) a Ba!=M2;have a2:M2 a=some Ba!:=by rw[<-e2];exact mup_same
 have QD:M2 ta=some D_:=by rw[<-e2,Ba_];exact mup_same
 have o2:∀b,b≠a->b≠ta->M2 b=M b:=λb O hc=>by rw[<-e2,bq!,mup_ne hc];exact o1 b O
 refine kN ?_;refine⟨W!,λwa LA=>?_⟩;have LB:a≠wa:=Bj (by rw[a2];simp) LA;have WR:ta≠wa:=Bj (by rw[QD];simp) LA;refine So (fs:=ll!) rfl ((mup_ne LB).trans a2) Bb! hP3 ?_;generalize e3:Cb (Cb M2 wa bW_) a Bb_=M3;have a3:M3 a=some Bb_:=by rw[<-e3];exact mup_same
 have o3:∀b,b≠a->b≠wa->M3 b=M2 b:=λb O hc=>by rw[<-e3,bq!,mup_ne hc]
 have w3:M3 wa=some bW_:=by rw[<-e3,Bc!];exact mup_same
 refine iN ?_;rw[qn!];refine So (fs:=ll_) rfl a3 Bb! hP4 ?_;refine⟨rfl,hR a ta wa _ ha ⟨mup_same,p7!,?_,qo!,FX,λh=>by simp[hs],qo!,qo!,AY _⟩ λb O=>?_⟩
 .rw[Ba_,o3 ta (AK xb) WR];exact QD
 .rw[Bc!];exact w3
 .have ba:b≠a:=Bj O ha;have bt:b≠ta:=Bj (N:=M1) (by rw[o1 b ba];exact O) QC;have bw:b≠wa:=Bj (N:=M2) (by rw[o2 b ba bt];exact O) LA;rw[mup_ne ba,o3 b ba bw,o2 b ba bt]
end
section
variable{t:Ca}{M:Mh}{ρ:Ag}{a ta wa:Addr}{out:D}{S:List Op}{kl:List Int}{ca:Int->Addr}
def Ft{ep:Nat}(hp:bQ!):Il M y!=some kU_:=by simp[Il,hp]
def fG(hp:qp!):Qt M y!=some (p,xs):=by simp[Qt,hp]
nonrec def ApT(fa:d_)(ρ:Ag)(d:D)(M:Mh)(R:v_):Prop:=Hi (Qt M d) λ_=>wl fa ρ M λv M2=>Hi (Qt M2 d) λq=>kV!<big/\R .non zs!
def b9x{fo:WE}{fa:d_}{q:WS}{R:q_}(h:fo ρ M λd M1=>ApT fa ρ d M1 λ_ M2=>q ρ M2 R):Ao (De (Tt fo em!)) q ρ M R:=h
def a2g{xs:b_}{f:d_}{R:v_}(hp:qp!)(hf:f ρ=some v)(hl:i_<big)(k:R .non Bf!):ApT f ρ y! M R:=by unfold ApT;rw[fG hp];refine Ud ?_;rw[Fa hf,fG hp];exact Ud ⟨hl,k⟩
def b9u{kvs:g!}{ep:Nat}{fo:WE}{fa:d_}{K:v_}(ho:Pu fo ρ M y!)(B:p4!)(hp:bQ!)(hk:ck_)(hl:dx!)
  (ah:∀q v,M q=none->kget kvs y=some v->K v fQ_)(new:∀q,M q=none->kget kvs y=none->K bl! Bf_):Os fo em! go! ρ M K:=by
 unfold Os;refine ho _ ?_;rw[Ft hp];refine Ud ?_;rw[Fa B];refine⟨W!,ht!⟩;have pq:p≠q:=Bj Bg! hq;show Hi (Il fQ_ y!) _;rw[Ft ((mup_ne pq).trans hp)];refine Ud ?_;rw[hk];refine Ud ⟨hl,?_⟩;show(match kget kvs y with|some v=>K v fQ_|none=>K bl! Bf_);cases e:kget kvs y with
 |some v=>exact ah q v hq e
 |none=>exact new q hq e
def b1u{o:Op}{R:v_}(hA:bF_)(hS:fR!)(hR:∀M' g7 g8,Fg t M' a ta wa .non (S++[o]) g7 g8->R .non M'):Wl t ln_ M R:=by
 obtain⟨ep,ht⟩:=hA.tk;refine m_;show Ao s8_ mG_ hO_ M _;refine b9x ?_;have i0:f2 Ar s_ C_ hO_=some bE!:=lU o;have WU:qj_<64:=CW hA.len hS;have WV:(lo!).length<64:=CW (nI S o.h) hS;have at_:a≠ta:=λz=>by have:=hA.ob;rw[z,ht]at this;cases this
 have aw:a≠wa:=λz=>by have:=hA.ob;rw[z,hA.wt]at this;cases this
 have tw:ta≠wa:=λz=>by rw[z,hA.wt]at ht;cases ht
 have cA:∀h∈kl,ca h≠a:=λh hh z=>by have:=hA.cl h hh;rw[z,hA.ob]at this;cases this
 have cT:∀h∈kl,ca h≠ta:=λh hh z=>by have:=hA.cl h hh;rw[z,ht]at this;cases this
 refine b9u (k:=qr!) lm_ i0 ht rfl cO_ (λq v hq e=>?_) (λq hq e=>?_)
 .have aq:a≠q:=Bj lr! hq;have tq:ta≠q:=Bj qs_ hq;have wq:wa≠q:=Bj qs! hq;have cq:∀h∈kl,ca h≠q:=λh hh=>Bj Bg_ hq;rw[Pe]at e;have c:o.h∈kl:=by
   by_cases c:o.h∈kl
   .exact c
   .rw[AI c]at e;cases e
  rw[AQ c]at e;cases e;refine a2g (p:=ca o.h) (v:=o.v) ((mup_ne (cq _ c)).trans (hA.cl _ c)) rfl cO_ ?_;generalize e2:Cb fQ_ (ca o.h) Bi_=M2;have m2:∀b,b≠q->b≠ca o.h->M2 b=M b:=λb B Y=>by rw[<-e2,cF!,cc!]
  have WW:M2 (ca o.h)=some Bi_:=by rw[<-e2];exact mup_same
  show Bj!;refine iN ?_;rw[qn!];refine So (fs:=hF ta wa out) rfl ((m2 a aq (AK (cA _ c))).trans hA.ob) qt_ hP5 ?_;refine hR _ kl ca ⟨mup_same,⟨ep,?_⟩,?_,qu!,hA.nk,λh=>?_,hA.cw,hA.ci,?_⟩
  .rw[Bk_,m2 ta tq (AK (cT _ c))];exact ht
  .rw[Bm_,m2 wa wq (AK (hA.cw _ c))];exact hA.wt
  .rw[mup_ne (cA h hh),Fi,Kz];by_cases z:o.h=h
   .rw[AQ z,<-z,WW,BJ];rfl
   .rw[AI z,BL,m2 _ (cq h hh) λy=>z (hA.ci _ hh _ c y).symm];exact hA.cl h hh
  .rw[Fi,Kz];by_cases z:o.h=h
   .rw[AQ z];subst z;simp[c]
   .rw[AI z,BL];exact hA.mem h
  .rw[AT];have:=hA.len;omega
 .have aq:a≠q:=Bj lr! hq;have tq:ta≠q:=Bj qs_ hq;have wq:wa≠q:=Bj qs! hq;have cq:∀h∈kl,ca h≠q:=λh hh=>Bj Bg_ hq;rw[Pe]at e;have c:o.h∉kl:=by
   by_cases c:o.h∈kl
   .rw[AQ c]at e;cases e
   .exact c
  have pj:Bi fP! bE! bl!=fP!++Bo!:=Pw (λz=>by
   rw[CB]at z;obtain⟨x,L,ex⟩:=AZ.mp z;exact c (by rw[<-D.int.inj ex];exact L))
  rw[pj];refine a2g (p:=q) (v:=o.v) (xs:=[]) ((mup_ne (AK tq)).trans mup_same) rfl c! ?_;generalize e2:Cb (Cb fQ_ ta Bp_) q (.lst ([]++[o.v]))=M2;have m2:∀b,b≠q->b≠ta->M2 b=M b:=λb B Y=>by rw[<-e2,cc!,cF!,cc!]
  have WX:M2 q=some (.lst [o.v]):=by rw[<-e2];exact mup_same
  have WY:M2 ta=some Bp_:=by rw[<-e2,mup_ne tq];exact mup_same
  show Bj!;refine iN ?_;rw[qn!];refine So (fs:=hF ta wa out) rfl ((m2 a aq at_).trans hA.ob) qt_ hP5 ?_;have nc:∀h∈kl,h≠o.h:=λh hh z=>c (z▸hh);have zp:hs S o.h=[]:=hA.nol c;refine hR _ (kl++[o.h]) (λh=>if h=o.h then q else ca h) ⟨mup_same,⟨ep+1,?_⟩,?_,qu!,?_,λh=>?_,qu!,λh hh h' oz ee=>?_,?_⟩
  .rw[Bk_,WY,BJ];congr 3
   .apply CJ;intro h hh;show _=(D.int h,D.fn ls_);rw[AI (nc h hh)]
   .show _=[(D.int o.h,D.fn (if o.h=o.h then q else ca o.h))];rw[j!]
  .rw[Bm_,m2 wa wq (AK tw)];exact hA.wt
  .show Cb M2 a _ ls_=_;by_cases z:h=o.h
   .rw[AQ z,mup_ne (AK aq),WX,z,Fi,Kz,j!,zp];rfl
   .have oz:h∈kl:=(AR.mp hh).resolve_right λy=>z qv!;rw[AI z,mup_ne (cA h oz),m2 _ (cq h oz) (cT h oz),Fi,Kz,AI (AK z),BL];exact hA.cl h oz
  .rw[BP];exact⟨hA.nk,AF!,λx L y hy=>by rw[AV.mp hy];exact nc x L⟩
  .rw[Fi,Kz,AR,AV];by_cases z:o.h=h
   .rw[AQ z];simp[z]
   .rw[AI z,BL,<-hA.mem h];simp[AK z]
  .show ls_≠wa;by_cases z:h=o.h
   .rw[AQ z];exact AK wq
   .rw[AI z];exact hA.cw h ((AR.mp hh).resolve_right λy=>z qv!)
  .have g:∀x,x∈kl++[o.h]->x≠o.h->x∈kl:=λx L z=>(AR.mp L).resolve_right λy=>z qv!;have qu:ls_=(if h'=o.h then q else ca h'):=ee;by_cases z:h=o.h
   .by_cases z':h'=o.h
    .rw[z,z']
    .rw[AQ z,AI z']at qu;exact absurd qu.symm (cq h' (g h' oz z'))
   .by_cases z':h'=o.h
    .rw[AI z,AQ z']at qu;exact absurd qu (cq h (g h hh z))
    .rw[AI z,AI z']at qu;exact hA.ci h (g h hh z) h' (g h' oz z') qu
  .rw[AT,AT];have:=hA.len;simp;omega
def a3w{f:WE}{nl:Nat}{ix:j_}{bnd:ae_}{ft:WT}{fe:WE}(h:Pu f ρ M y!)(hp:M p=some bW_):Pu (Dx nl ix (Et f) bnd ft fe) ρ M bW_:=λK hK=>by
 unfold Dx Et;refine h _ ?_;show(match M p with|some (.lst xs)=>_|_=>False);rw[hp];exact⟨CI _,hp,hK⟩
def a9t{ft:WT}{q q2:WS}{R:q_}(h:lk!)(k:hk!):Ao (Io ft q) q2 ρ M R:=by unfold Ao Io;refine fb!;unfold Ez;refine h _ ?_;rw[Z!];exact k
def cV(hA:bF_):PuF (Ib t) [aA_] M G!:=λK hK=>by
 refine m_;show Ao (Az 1 aL_) (Ao (Az 2 (Dx 1 [0] (Et eP!) S! _ _)) (Ao (Io tb! _) bK!)) Bt_ M _;refine Sl eu! ?_;refine Sl (a3w (Od cq! hA.ob hF3) hA.wt) ?_;refine a9t (a7c rfl) ?_;exact Kr eu! hK
def a3r{o:Op}{R:v_}(hA:bF_)(hS:fR!)(hn:o.n=fQ!+1)(hR:∀M' g7 g8,Fg t M' a ta wa .non (S++[o]) g7 g8->R aS_ M'):Sc t ln_ M R:=by
 refine m_;show Ao td! _ lt! M _;have L:PuT tb_ lt! M true:=by
  have e:(o.n==fQ!+1)=true:=by rw[hn];exact DY _
  have:=lM (Vm (ρ:=lt!) Bu! (Cu (f:=Aa 1) rfl) (a4y (o:=o) hA));rw[e]at this;exact this
 unfold Ao;refine sU L ?_;refine Nu (gV rfl rfl (b1u hA hS λM' g7 g8 iw=>?_));show Cn tc! lt! M' _;exact Kr (Ov A8_ (lL (Cu (f:=Aa 0) (d:=aA_) rfl) (cV iw)) (d:=.int 1) rfl) Bu_
def Hist.next{os:o_}{o:Op}(h:Hist (S++o::os)):o.n=fQ!+1:=by
 have:=(h.ch o.h).num (lo!).length o;rw[Fi]at this;have e:hs hx_ o.h=o::hs os o.h:=by unfold hs;rw[CM c_]
 rw[e]at this;exact this (by rw[CD x_];simp)
nonrec def tkB(t:Ca):WS:=xN 2 tf_
def a6j:∀(os:o_) (x1:D) (k:Int) (y:ad_) (M:Mh) (out:D) (S:o_) (kl:D!) (ca:Int->Addr) (R:q_),Fg t M a ta wa out S kl ca->Hist (S++os)->(S++os).length<64->
  (∀M' g7 g8 uz y',Fg t M' a ta wa uz (S++os) g7 g8->(uz=.non\/uz=out)->R (.nx [u_,H!,some (.int (k+(aQ!:Nat))),y']) M')->
  Kf N! F! (tkB t) ap_ [u_,H!,some hS!,y] M R
 |[],x1,k,y,M,out,S,kl,ca,R,hA,_,_,hR=>⟨trivial,by
  have:=hR M kl ca out y (by rw[BL];exact hA) gE!;simpa using this⟩
 |o::os,x1,k,y,M,out,S,kl,ca,R,hA,hH,hl,hR=>by
  refine aO_;show tkB t qw! M _;show Ba 2 (Sc t) mM_ qw! M _;have lu:S.length<64:=by rw[AT]at hl;omega
  refine gV rfl rfl (a3r hA lu hH.next λM' g7 g8 iw=>?_);have e:S++o::os=S++[o]++os:=by simp
  refine a6j os x1 Q! ek! M' .non (S++[o]) g7 g8 R iw (by rw[<-e];exact hH) qx! λM2 WZ W3 W4 y2 Y hz=>?_;have h3:=hR M2 WZ W3 W4 y2 (by rw[e];exact Y) (.inl (hz.elim id id));have ek:k+((hx_).length:Nat)=k+1+(aQ!:Nat):=by rw[AJ];omega
  rw[ek]at h3;exact h3
end
section
variable{t:Ca}{M:Mh}{ρ:Ag}{a ta wa:Addr}{out:D}{ca:Int->Addr}
def Fg.mupN{c:dA}(hA:fS_)(B:p≠a)(Y:p≠ta)(h3:p≠wa):Fg t pr_ a ta wa out [] [] ca:=by obtain⟨ep,ht⟩:=hA.tk;exact{hA with ob:=(mup_ne (AK B)).trans hA.ob,tk:=⟨ep,(mup_ne (AK Y)).trans ht⟩,wt:=(mup_ne (AK h3)).trans hA.wt,cl:=λh hh=>qn_}
def Fg.offN(hA:fS_)(hp:M p=none):p≠a/\p≠ta/\p≠wa:=by obtain⟨ep,ht⟩:=hA.tk;exact⟨AK (Bj lr! hp),AK (Bj qs_ hp),AK (Bj qs! hp)⟩
def a3f{kvs:g!}{ep:Nat}{fo fa fb:d_}{K:v_}(h0:fI_)(B:p4!)(Y:fb ρ=some z)(hp:bQ!)(hk:ck_)(hl:dx!)(hn:y∉kvs.map b!)(hK:K z (Cb M p (.dct (kvs++[(y,z)]) bc!))):Os ch! em! hr! ρ M K:=by unfold Os;rw[Fa h0,Ft hp];refine Ud ?_;rw[Fa B,Fa Y,Ft hp,hk];refine Ud (Ud ⟨hl,?_⟩);show(match kget kvs y with|some v=>K v M|none=>K z (Cb M p (.dct (Bi kvs y z) bc!)));rw[mS hn,Pw hn];exact hK
def b5q(o:Op):Ar o.nm G!=some bE!:=by simp[Op.nm,Ar,Gf,Ig]
def c6t(o:Op):Ar o.v bv_=some eo!:=by simp[Op.v,Ar,Gf,Ig]
nonrec def nyB(t:Ca):WS:=Ao eK_
 (Ao sY_
 s1_)
def a7x:∀(os dn:o_) (x1:D) (y3 y4 y5:ad_) (ep:Nat) (M:Mh) (R:q_),Fg t M a ta wa out [] [] ca->(∀o∈os,OpF o)->((dn++os).map Op.nm).Nodup->(dn++os).length<64->M p=some (.dct ly! ep)->p≠a->p≠ta->p≠wa->
  (∀M' bd ky kz on,M' p=some (.dct ((dn++os).map λo=>hT!) bd)->fv!->R (.nx [u_,H!,H_,ky,kz,on]) M')->
  Kf N! F! (nyB t) ap_ [u_,H!,H_,y3,y4,y5] M R
 |[],dn,x1,y3,y4,y5,ep,M,R,_,_,_,_,hp,_,_,_,hR=>⟨trivial,hR M ep y3 y4 y5 (by rw[BL];exact hp) λb _=>rfl⟩
 |o::os,dn,x1,y3,y4,y5,ep,M,R,hA,hf,nd,hl,hp,u6,u7,qr,hR=>by
  refine aO_;have ho:=hf o AL;have e:dn++o::os=dn++[o]++os:=by simp
  show nyB t ly_ M _;show Ao eK_ _ ly_ M _;have es:Je G_ Bw c3! ly_=some o.nm:=b3a o;refine Sl (Cu es) ?_;show Ao op! _ hU! M _;have B:PuT sW_ hU! M false:=by
   have:=lM (Vm (ρ:=hU!) Bu! (Cu (f:=Aa 3) rfl) (sQ (o:=o) hA));rw[AW (by have:=ho.n1;show¬(o.n<=c6!);omega)]at this;exact this
  have Y:PuT sY! hU! M false:=by
   refine lM (Ov (Cu (d:=hm!) (b5q o)) (Od cq! hA.ob hF1) ?_);have:(o.h==3)=false:=by rcases ho.hh with z|z|z<;>rw[z]<;>rfl
   show Cg bE! aC_=_;rw[wH,this]
  unfold Ao;refine kA B (kA Y ?_);unfold Az;have wz:o.nm∉(ly!).map b!:=λz=>by
   rw[CB]at z;rw[BJ,BP]at nd;exact nd.2.2 o.nm z o.nm c_ rfl
  refine a3f (p:=p) (y:=o.nm) (z:=o.v) (k:=qD!) rfl rfl rfl hp rfl (by rw[AU];rw[AT]at hl;unfold big;omega) wz ?_;show Bs sZ_ Mn Eu hV_ qE_ _;have h3:fT AT_ hV_=some false:=by
   obtain⟨n1,n2⟩:=c1f ho.dg;have:f2 Hw B! G_ hV_=some au_:=c1m n1 a!;show"!L"
  refine kA (a7c h3) ?_;show Kf N! F! (nyB t) ap_ hV_ qE_ R;refine a7x os (dn++[o]) x1 ek! (some o.nm) ek! bc! _ R (hA.mupN u6 u7 qr) (λx L=>hf x bQ_) (by rw[<-e];exact nd) qx! (by rw[mup_same,BJ];rfl) u6 u7 qr λM' bd z3 z4 z5 g1 g2=>?_;exact hR M' bd z3 z4 z5 (by rw[e];exact g1) λb O=>(g2 b O).trans fw!
def a4k{ms:o_}{R:v_}(hA:fS_)(hH:dE!)(hl:fV_)
  (hR:∀M' p ep,Fg t M' a ta wa out [] [] ca->M' p=some (.dct fV! ep)->p≠a->p≠ta->p≠wa->R y! M'):Gk t hW! M R:=by
 refine m_;show Ao eK! (Ao (Fn sV_ N! (nyB t)) eL!) [u_,ew_,none,none,none,none] M _;intro p hp;obtain⟨q1,q2,q3⟩:=hA.offN hp;have g9:=hA.mupN (c:=.dct [] 0) q1 q2 q3;show Ao (Fn _ _ _) _ [u_,ew_,H_,none,none,none] cO! _;unfold Ao Fn Et;have ub:Qj cO! (.fn wa) lA_=some lA_:=by
  simp only[Qj,g9.wt];rw[AQ (by rw[AU];unfold big;simp;omega)];rfl
 refine Ov (Od cq! g9.ob hF3) (Cu (d:=.lst dE_) rfl) ub _ ?_;refine a7x (p:=p) ms [] _ none none none 0 _ _ g9 hH.op (by simpa using hH.names) qI_ mup_same q1 q2 q3 λM' bd y3 y4 y5 g1 g2=>?_;obtain⟨et,ht⟩:=g9.tk;have LC:Fg t M' a ta wa out [] [] ca:={g9 with ob:=(g2 a (AK q1)).trans g9.ob,tk:=⟨et,(g2 ta (AK q2)).trans ht⟩,wt:=(g2 wa (AK q3)).trans g9.wt,cl:=λh hh=>qn_};exact Kr fX_ (hR M' p bd LC g1 q1 q2 q3)
nonrec def ctB(t:Ca):WS:=Ao s3!
 (Ao s4_
 s5!)
def d1u{kvs:g!}{ep:Nat}{fo fi f:d_}{R:q_}(h0:fI_)(B:fi ρ=some y)(Y:f ρ=some v)(hp:bQ!)(hk:ck_)(hl:dx!)(k':R an_ hG!):Dz ch! (wl fi) (wl f) ρ M R:=by unfold Dz;rw[Fa Y,Fa h0,Fa B,Nm hp hk hl];exact k'
def a9a{e0:Nat}(pq:q≠p):∀(qs:o_) (jy:g!) (ep:Nat) (y3 y4:ad_) (M:Mh) (R:q_),Fg t M a ta wa out [] [] ca->M p=some (.dct kvs e0)->(∀o∈qs,kget kvs o.nm=some o.v/\OpF o)->M q=some (.dct jy ep)->q≠a->q≠ta->q≠wa->
  qs.Pairwise (λx y=>x.h=y.h->x.tm<y.tm)->(∀o∈qs,∀v,kget jy bE!=some v->∃m,v=.int m/\m<o.tm)->jy.length+qs.length<1000->
  (∀M' ky kz,Fg t M' a ta wa out [] [] ca->R (.nx [u_,H_,aq!,ky,kz]) M')->
  Kf N! F! (ctB t) qL_ [u_,H_,aq!,y3,y4] M R
 |[],jy,ep,y3,y4,M,R,hA,_,_,_,_,_,_,_,_,_,hR=>⟨trivial,hR M y3 y4 hA⟩
 |o::qs,jy,ep,y3,y4,M,R,hA,hp,hk,hq,n1,n2,n3,pw,ht,hl,hR=>by
  refine aO_;obtain⟨W5,ho⟩:=hk o AL;rw[CY]at pw;simp only[AJ]at hl;show ctB t qM! M _;show Ao (Az 4 _) _ qM! M _;have i1:Ec M y! o.nm=some o.v:=(Tj (k:=qD!) hp rfl).trans W5;have i2:Ec M o.v bv_=some eo!:=c6t o;refine Sl (Ov (Ov fX_ (Cu (d:=o.nm) rfl) i1) (Cu (d:=.int 2) rfl) i2) ?_;show Ao op! _ hX_ M _;have ix:f2 Ar G_ C_ hX_=some bE!:=b5q o;obtain⟨m,em,hm⟩:∃m:Int,(kget jy (.int o.h)).getD (.int 0)=.int m/\m<o.tm:=by
   cases e:kget jy bE! with
   |none=>exact⟨0,rfl,by have:=ho.t1;omega⟩
   |some v=>
    obtain⟨m,e1,e2⟩:=ht o AL v e;exact⟨m,e1,e2⟩
  have hc:PuT s4! hX_ M false:=by
   refine lM (Ov (Cu (d:=kv_) rfl) (lK qN_ (Cu ix) (Vm hY! (Cu ix) (uW hA rfl)) hq (k:=qr!) rfl em) ?_);show some (D.bl (decide (o.tm<=m)))=_;rw[AW a!]
  refine aO hc ?_;refine d1u (p:=q) (y:=hm!) (v:=kv_) (k:=qr!) rfl ix rfl hq rfl dp_ ?_;show Kf N! F! (ctB t) qL_ hX_ (Cb M q (.dct (Bi jy bE! eo!) (Lk jy bE! ep))) R;refine a9a pq qs _ _ (some o.nm) (some eo!) _ R (hA.mupN n1 n2 n3) ((mup_ne (AK pq)).trans hp) qO_ mup_same n1 n2 n3 pw.2 (λx L v hv=>?_) (by have:=kput_len jy bE! eo!;omega) λM' z3 z4 h=>hR M' z3 z4 h;by_cases c:o.h=x.h
  .rw[<-c,Gv]at hv;cases hv;exact⟨_,rfl,pw.1 x L c⟩
  .rw[Hb λz=>c (D.int.inj z)]at hv;exact ht x bQ_ v hv
def a8k{f:Op->D}{g:Op->D}:∀{l:o_},(hP_).Nodup->∀{o:Op},o∈l->kget (l.map λo=>(f o,g o)) (f o)=some (g o)
 |[],_,o,h=>by cases h
 |x::l,nd,o,h=>by
  rw[AH,AX]at nd;rw[AH];unfold kget;rcases AE.mp h with rfl|h
  .rw[j!]
  .rw[AI λz=>nd.1 (by rw[z];exact AM h),a8k nd.2 h]
nonrec def iC(o:Op):Int×Int:=(o.h,o.n)
def Hist.nkeys{ms:o_}(h:dE!):(ms.map iC).Nodup:=by have:=h.names;rw[GZ,JP]at this ⊢;refine this.imp λ{x y} W6 e=>W6 ?_;simp only[iC,DR]at e;show D.tup [.int x.h,.int x.n]=D.tup [.int y.h,.int y.n];rw[e.1,e.2]
def Hist.rise{ms:o_}(h:dE!){x y:Op}(L:x∈ms)(hy:y∈ms)(e:x.h=y.h)(hn:x.n<y.n):x.tm<y.tm:=by have l8:x∈hs ms y.h:=eM.mpr ⟨L,e⟩;have xq:y∈hs ms y.h:=eM.mpr ⟨hy,rfl⟩;obtain⟨i,hi,ei⟩:=IR.mp l8;obtain⟨j,hj,ej⟩:=IR.mp xq;have B:=(lE!).num i x (by rw[BB hi,ei]);have Y:=(lE!).num j y (by rw[BB hj,ej]);have:=HH.mp (lE!).tim i j hi hj a!;rw[ei,ej]at this;exact this
def b6d{x y:Op}(h:Uv (iC x) (iC y)=true)(e:x.h=y.h):x.n<y.n:=by simp only[Uv,ltP,iC,e,CF,BM]at h;exact h
def nV{e0:Nat}{ms:o_}{R:v_}(hA:fS_)(hH:dE!)(hl:fV_)(hp:M p=some (.dct fV! e0))(u6:p≠a)(u7:p≠ta)(qr:p≠wa)
  (hR:qR!):Nb t [aA_,.fn p] M R:=by
 refine m_;show Ao eK! (Fn s2! N! (ctB t)) [u_,H_,none,none,none] M _;intro q hq;obtain⟨q1,q2,q3⟩:=hA.offN hq;have qp:q≠p:=AK (Bj Bg! hq);have g9:=hA.mupN (c:=.dct [] 0) q1 q2 q3;have QE:Cb M q D_ p=some (.dct fV! e0):=(mup_ne (AK qp)).trans hp;show Fn _ _ _ [u_,H_,aq!,none,none] lF_ _;unfold Fn Et;have u8:(h0!).Perm ms:=Ev ms;have W7:kK lF_ [.fn p]=some (.lst ((h0!).map Op.nm)):=by
  show((Il lF_ y!).bind λq=>(b2y la_).map D.lst)=_;rw[Ft QE];show(b2y ((fV!).map b!)).map D.lst=_;have e1:(fV!).map b!=ms.map Op.nm:=by rw[CB];rfl
  have e2:(qS!).map aI=ms.map iC:=by rw[CB];rfl
  rw[e1];unfold b2y;rw[AQ ⟨DQ.mpr λd hd=>by obtain⟨o,_,rfl⟩:=AZ.mp hd;rfl,by rw[e2];exact hH.nkeys,vj!⟩];show some (D.lst (Qv aI qS!))=_;rw[kJ (f:=Op.nm) (k:=iC) (k':=aI) λo=>rfl]
 refine qU fX_ W7 _ ?_;refine a9a qp h0! [] 0 none none _ _ g9 QE (λo ho=>⟨a8k hH.names qS_,hH.op o qS_⟩) mup_same q1 q2 q3 ?_ (λo _ v hv=>by cases hv) (by rw[u8.length_eq];simp;omega) λM' y3 y4 h=>hR M' h;have bu:fI iC h0!:=Ro hH.nkeys;have:=List.Pairwise.and_mem.mp bu;exact this.imp λ{x y} h e=>hH.rise (u8.mem_iff.mp h.1) (u8.mem_iff.mp h.2.1) e (b6d (x:=x) (y:=y) h.2.2 e)
def nZ:∀{ys:b_},(∀y∈ys,y=D.bl true)->Wu ys=some qT_
 |[],_=>rfl
 |y::ys,h=>by
  rw[h y AL];show(Wu ys).map (true::·)=_;rw[nZ λx L=>h x bQ_];rfl
def b8o{f:d_}(h:cG_):Ad f An ρ=some [d]:=by unfold Ad;rw[h];rfl
def c9p{f g k:d_}{a:D}(B:k6_)(Y:k7!)(h3:k ρ=some c):Ad f Aa! ρ=some cV_:=by unfold Ad;rw[B,Y,h3];rfl
def a8u{g:W_}{fs:an!}(h:hf!):f1 g fs ρ=g ds:=by unfold f1;rw[h];rfl
def c3l{ms:o_}(nd:t.nd)(hH:dE!)(hl:fV_):Fk s6! h1_=some false:=by
 obtain⟨ys,e,_,hr⟩:=Sh (ρ:=ch_) (bnd:=Dl 0) (ft:=kf_) (fe:=f1 (Eh t) a1!) qU! dE_ (by
  intro d hd;obtain⟨o,ho,rfl⟩:=AZ.mp hd;exact⟨[X_],true,rfl,rfl,λ_=>⟨if_,d2b nd (hH.op o ho),rfl⟩⟩)
 have hc:Jq 1 [] (Iz s_) S! aL! s5_ h1_=some aU!:=by
  show(if(dE_).length<=big then Option.map D.lst (Jy _ _ _ ch_ dE_)else none)=_;rw[AQ cO_,e];rfl
 have ha:f1 Yd (Ad mO_ An) h1_=some E!:=by
  have B:Ad mO_ An h1_=some [.lst ys]:=by
   exact b8o hc
  rw[a8u B];show"#+"
 unfold Fk fT;rw[ha];rfl
def fF{ms:o_}{R:v_}(nd:t.nd)(hA:fS_)(hH:dE!)(hl:fV_)(hR:qR!):Ko t hW! M R:=by refine m_;show Ao (Bs (Gc (Fk _)) Mn Eu) s7_ lH! M _;refine aO (a7c (c3l nd hH hl)) ?_;refine Nu ?_;have hn:∀K:D->Mh->Prop,Gk t hW! M K->Ba 2 (Gk t) b4_ lH! M K:=λK h=>gV rfl rfl h;show Ba 2 (Gk t) b4_ lH! M _;refine hn _ (a4k hA hH hl λM1 p ep g9 hp u6 u7 qr=>m_);exact nV g9 hH hl hp u6 u7 qr λM' iw=>hR M' iw
def b9o{ms:o_}{R:v_}(nd:t.nd)(hA:Fg t M a ta wa .non [] [] ca)(hH:dE!)(hl:fV_)(hR:∀M' g7 g8,Fg t M' a ta wa .non ms g7 g8->R (.int lH_) M'):wG t hW! M R:=by refine m_;show Ao tf! (Ao (Az 2 aL_) (Ao (Fn mR! N! (tkB t)) eL!)) [u_,ew_,none,none] M _;unfold Ao;refine Nu (gV rfl rfl (fF nd hA hH hl λM1 g9=>?_));refine Cu (f:=fC G!) (d:=bo!) rfl _ ?_;show Fn mR! N! (tkB t) qX! M1 _;have hi:Iz s_ qX!=some dE_:=wA rfl;unfold Fn Qu;rw[hi];refine a6j ms _ 0 none M1 .non [] [] ca _ g9 (by simpa using hH) qI_ λM' g7 g8 uz y' iw hz=>?_;have ho:uz=.non:=hz.elim id id;rw[ho]at iw;refine Kr (Cu (d:=.int lH_) (by show some (D.int (0+lH_))=_;rw[Int.zero_add])) Bu_
end
def c1e{α:Type}(p q:α->Bool)(l:K_)(h:∀x∈l,¬(p x=true/\q x=true)):(l.filter p++l.filter q).Perm qY!:=by
 have B:=List.filter_append_perm p qY!;rw[GH,GH]at B;have e1:(l.filter λx=>p x&&(p x||q x))=l.filter p:=EZ λx _=>by cases p x<;>simp
 have e2:(l.filter λx=>(!p x)&&(p x||q x))=l.filter q:=EZ λx L=>by
  have:=h x L;cases c:p x<;>cases d:q x<;>simp_all
 rw[e1,e2]at B;exact B
def rY{S:o_}:∀{kl:D!},kl.Nodup->(lJ!).Perm (S.filter λo=>decide (o.h∈kl))
 |[],_=>by simp
 |k::kl,nd=>by
  rw[AX]at nd;rw[DJ];refine((rY nd.2).append_left _).trans ?_;refine(c1e (λo:Op=>decide (o.h=k)) (λo=>decide (o.h∈kl)) S λx _ z=>?_).trans (List.Perm.of_eq (EZ λx _=>by simp[AE]));simp only[BM]at z;exact nd.1 (z.1▸z.2)
section
variable{t:Ca}{M:Mh}{ρ:Ag}{a ta wa:Addr}{out:D}{S:List Op}{kl:List Int}{ca:Int->Addr}
def Fg.perm(hA:bF_):(lJ!).Perm S:=by refine(rY hA.nk).trans (List.Perm.of_eq (DD.mpr λo ho=>?_));rw[BM,hA.mem];intro z;have:o∈hs S o.h:=eM.mpr ⟨ho,rfl⟩;rw[z]at this;cases this
nonrec def alB(t:Ca):WS:=b2m 1 mH_
def a9g{ck:cP!}(hA:bF_)(il:ck M)(hS:fR!):∀(ks:D!) (acc:o_) (y:ad_) (R:q_),(∀h∈ks,h∈kl)->co!+64*kw_<100000->
  (∀y',R (.nx [u_,some (.lst ((acc++ks.flatMap (hs S)).map Op.v)),y']) M)->
  Kf a2_ ck h4_ q0! [u_,fC!,y] M R
 |[],acc,y,R,_,_,hR=>⟨il,by have:=hR y;simpa using this⟩
 |h::ks,acc,y,R,hk,hl,hR=>by
  refine⟨il,?_⟩;obtain⟨ep,ht⟩:=hA.tk;have hh:=hk h AL;show alB t [u_,fC!,hO!] M _;show b2m 1 mH_ [u_,fC!,hO!] M _;unfold b2m;have i1:Ec M (.fn ta) (.int h)=some (.fn hN_):=(Tj (k:=ql_) ht rfl).trans (by rw[Pe,AQ hh]);refine Ov lm_ ln! i1 _ ?_;rw[fG (hA.cl h hh)];refine Ud ?_;have WV:(lm!).length<64:=CW (nI S h) hS;simp only[AJ]at hl;refine⟨by simp only[AU];unfold big;omega,?_⟩;show Kf a2_ ck h4_ q0! [u_,some (.lst (acc.map Op.v++(lm!).map Op.v)),hO!] M R;rw[<-BJ];refine a9g hA il hS ks (acc++hs S h) (some (.int h)) R qO_ ws! λy'=>?_;have:=hR y';rw[DJ,<-CQ]at this;exact this
def xE(hA:bF_)(hH:Hist S)(hS:fR!):PuF (Jo t) [aA_] M (.lst lL!):=λK hK=>by
 obtain⟨ep,ht⟩:=hA.tk;refine m_;show Ao ge_ (Ao q3_ mI!) Bt_ M _;show Ao q3_ mI! q4! M _;unfold Ao Fn xL;refine Od cq! hA.ob hF2 _ ?_;rw[Ft ht];refine Ud ?_;have WU:qj_<64:=CW hA.len hS;have ek:(fP!).map b!=kl.map D.int:=by rw[CB];rfl
 show Kf a2_ _ h4_ ((fP!).map b!) q4! M _;rw[ek];refine a9g hA ht hS kl [] none _ (λh hh=>hh) bJ! λy'=>?_;have hp:=hA.perm;have nd:((lJ!).map Op.key).Nodup:=(hz_).nodup_iff.mpr hH.keys;have he:f1 Gm c4! [u_,some (.lst q5_),y']=some (.lst lL!):=by
  show Gm [.lst q5_]=_;rw[CZ,Wk nd q6_,fR hp nd]
 exact Kr (Cu he) hK
structure OS(t:Ca)(M:Mh)(a o:Addr)(rl:bN_)(W:OW):Prop where
 hob:∃ta wa,M a=some lM!
 out:Ep t M o rl W 1500
def c1c{R:v_}(hA:q7!)(hH:Hist S)(hS:fR!)(hr:Run W0 q7_ W')
  (hR:∀M' o af,OS t M' a o af W'->(∀b,M b≠none->b≠a->M' b=M b)->R ax_ M'):Iq t [aA_] M R:=by
 refine m_;show Ao sR! (Cn gp!) [u_] M _;unfold Ao;refine sU (lM (Ov (Od cq! hA.ob hF4) q9! rfl)) ?_;refine iN ?_;show Ba 1 (Qa t) mJ! [u_] M _;have hp:(Pd S).Perm S:=Ev S;have hc:∀K:D->Mh->Prop,Qa t [.lst lL!] M K->Ba 1 (Qa t) mJ! [u_] M K:=λK h=>by
  show Ba 1 (Jo t) a3_ [u_] M _;exact lL hY! (xE hA hH hS) _ ca_
 refine hc _ (b0k (W':=W') ((hz_).nodup_iff.mpr hH.keys) ((hz_).nodup_iff.mpr hH.names) q6_ (λo ho=>(hH.op o (hp.mem_iff.mp ho)).dg) (by rw[b2x hH.keys];exact hr) λo M1 af ho hO hw fr=>?_);have fa:=fr a lr!;refine So (fs:=hF ta wa .non) rfl (fa.1.trans hA.ob) qt_ hP5 ?_;have Y:Ep t (Cb M1 a lM!) o af W' 1500:=hO.keep λc hc=>mup_ne λz=>hc (by rw[z];exact fa.2);show Cn gp! [u_] (Cb M1 a lM!) _;exact Kr (Od cq! mup_same hF4) (hR _ o af ⟨⟨ta,wa,mup_same⟩,Y⟩ λb O hn=>(mup_ne hn).trans (fr b O).1)
variable{o:Addr}{rl:Addr->dB}{W:OW}{x:D}
def c1b(h:ex_):PuF (Iq t) [aA_] M ax_:=λK hK=>by
 obtain⟨ta,wa,hob⟩:=h.hob;refine m_;show Ao (Bs sQ_ _ Eu) (Cn gp!) [u_] M _;refine aO (lM (Ov ra! q9! rfl)) ?_;exact Kr ra! hK
def OS.nob(h:ex_)(hm:∀{a1 a2 a3 a4 a5 a6:Addr},(Z_).lookup m=none):Gi t.B4 m M ax_:=by obtain⟨_,_,_,_,_,_,_,_,_,_,_,_,hA⟩:=h.out;exact hA.noOb hm
def b9d(h:ex_)(hk:fy!)(L:dh!):PuF (Lx t) [aA_,x] M ax_:=λK hK=>by
 refine m_;show Ao (Az 2 iS_) th! [u_,ay!,none] M _;refine Sl (lL hY! (c1b h)) ?_;refine aO (c6h (lM (b:=true) (Pp ey! (h.nob oM1) f1! λK hK=>a5e h.out hk (by rw[BK L];exact hK)))) ?_;exact Kr ey! hK
end
structure Tr(rows:g!) where
 T:Nat->D->List ez!
 f:D->Nat
 dec:∀x c,de!∈rows->f c<f x
 eq:∀d x,T d x=bD_::(d0!).flatMap (T bd!)
nonrec def pg(rows:g!):Nat->Nat->D->List ez!
 |0,_,_=>[]
 |n+1,d,x=>bD_::(d0!).flatMap (pg rows n bd!)
def nJ{α β:Type}{l:K_}{f g:α->List β}(h:∀a∈l,f a=g a):l.flatMap f=l.flatMap g:=by rw[List.flatMap_def,List.flatMap_def,CJ h]
def a7l{rows:g!}{f:D->Nat}(hf:∀x c,de!∈rows->f c<f x)(h0:∀x,0<f x):∀n m d x,f x<=n->f x<=m->pg rows n d x=pg rows m d x
 |0,_,_,x,h,_=>absurd (h0 x) a!
 |n+1,0,_,x,_,h=>absurd (h0 x) a!
 |n+1,m+1,d,x,B,Y=>by
  show _::_=_::_;rw[nJ λc hc=>a7l hf h0 n m bd! c (by have:=hf x c fk!;omega) (by have:=hf x c fk!;omega)]
def b6a{α:Type}(f:α->Nat):∀l:List α,∃hb,∀x∈l,f x<=hb
 |[]=>⟨0,λ_ h=>by cases h⟩
 |a::l=>by
  obtain⟨hb,h⟩:=b6a f l;refine⟨hb+f a,aU_⟩;rcases AE.mp L with rfl|L
  .omega
  .have:=h x L;omega
def d0o{rows:g!}(h:∃rk:D->Nat,∀i p,bA_∈rows->rk p<rk i):Nonempty (Tr rows):=by
 obtain⟨rk,hr⟩:=h;obtain⟨hb,hB⟩:=b6a (λq:D×D=>rk q.1) rows;have hf:∀x c,de!∈rows->(hb+1 - rk c)+1<h8!+1:=λx c hc=>by
  have B:=hr c x hc;have Y:rk c<=hb:=hB de! hc;omega
 refine⟨⟨λd x=>pg rows (h8!+1) d x,λx=>h8!+1,hf,λd x=>?_⟩⟩;show _::_=_::_;rw[nJ λc hc=>a7l hf (λ_=>Nat.succ_pos _) h8! ((hb+1 - rk c)+1) bd! c (by have:=hf x c fk!;omega) x_]
def d0k{rows:g!}(h:de!∈rows)(w:Wn rows c y):Wn rows x y:=by
 induction w with
 |here=>exact .up h .here
 |up h _ ih=>exact .up h ih
section
variable{rows:List (D×D)}(t:Tr rows)
def Tr.wn(h:Wn rows i x):t.f x<=t.f i:=by
 induction h with
 |here=>exact AY _
 |up h _ ih=>have:=t.dec _ _ h;omega
def Tr.mem:∀{n:Nat} {x y:D} {d:Nat},t.f x<n->y∈(h8_).map A_->Wn rows x y
 |0,_,_,_,h,_=>absurd h (KA _)
 |n+1,x,y,d,h,hy=>by
  rw[t.eq,AH,AE]at hy;rcases hy with rfl|hy
  .exact .here
  .obtain⟨q,hq,rfl⟩:=AZ.mp hy;obtain⟨c,hc,hq⟩:=JT.mp hq;have a8:=Eb.mp hc;have:=t.dec _ _ a8;have w:=Tr.mem (n:=n) a! rf!;exact d0k a8 w
def wn_two(nd:cL_)(h:Wn rows a x)(Y:Wn rows b x):Wn rows a b\/Wn rows b a:=by
 induction h with
 |here=>exact .inr Y
 |up h w ih=>
  cases Y with
  |here=>exact .inl (.up h w)
  |up h3 w3=>rw[Qd nd h3 h]at w3;exact ih w3
def Tr.nd(nd:cL_):∀{n:Nat} {x:D} {d:Nat},t.f x<n->((h8_).map A_).Nodup
 |0,_,_,h=>absurd h (KA _)
 |n+1,x,d,h=>by
  rw[t.eq,AH,AX];show"!Q"
  .intro z;obtain⟨q,hq,e⟩:=AZ.mp z;obtain⟨c,hc,hq⟩:=JT.mp hq;have B:=t.dec _ _ fk!;have Y:=t.wn (t.mem (n:=n) a! rf!);have e:q.2=x:=e;rw[e]at Y;omega
  .rw[List.map_flatMap];refine List.pairwise_flatMap.mpr ⟨λc hc=>Tr.nd nd (n:=n) (by have:=t.dec _ _ fk!;omega),?_⟩;have hn:(d0!).Nodup:=nd.sublist wV;refine List.Pairwise.imp_of_mem ?_ hn;intro a b ha O ne y hy z hz e;subst e;have QF:=Eb.mp ha;have cg:=Eb.mp O;have B:=t.dec _ _ QF;have Y:=t.dec _ _ cg;rcases wn_two nd (t.mem (n:=n) a! hy) (t.mem (n:=n) a! hz)with w|w
   .have:=t.wn ((jM nd cg (AK ne)).mp w);omega
   .have:=t.wn ((jM nd QF ne).mp w);omega
def a4m{α:Type}:∀{l m:K_},l.Nodup->(∀a∈l,a∈m)->P!<=m.length
 |[],_,_,_=>CI _
 |a::l,m,h,hs=>by
  rw[AX]at h;have ha:=hs a AL;have:=a4m (m:=m.erase a) h.2 λb O=>(List.mem_erase_of_ne λz:b=a=>h.1 (z▸O)).mpr (hs b (AD _ O));rw[List.length_erase_of_mem ha]at this;have:=List.length_pos_of_mem ha;rw[AJ];omega
def Tr.len(nd:cL_)(d:Nat)(x:D):(h8_).length<=pZ_+1:=by
 have:=a4m (m:=x::rows.map b!) (t.nd nd (n:=t.f x+1) (x:=x) (d:=d) eS_) λy hy=>by
  have:=t.mem (n:=t.f x+1) eS_ hy;cases this with
  |here=>exact AL
  |up h _=>exact AD _ (AM (f:=b!) h)
 show"#>"
def Tr.child{d:Nat}(h:de!∈rows):(t.T bd! c).length<(h8_).length:=by obtain⟨u,v,e⟩:=JJ (Eb.mpr h);rw[t.eq d x,e,JA,DJ];simp only[AJ,AT];omega
end
def c4w:∀(l:k!) (b:Str),b++Txt.join bb! l=l.foldl cs! b
 |[],b=>Str.append_empty b
 |x::l,b=>by
  have h:∀(l:k!) (a:Array Nat),(⟨l.foldl oC_ a⟩:Str)=l.foldl cs! ⟨a⟩:=by
   intro l
   induction l with
   |nil=>intro a;rfl
   |cons y l ih=>
    intro a;show(⟨l.foldl _ (a++#[]++y.cps)⟩:Str)=_;rw[Array.append_empty];exact ih _
  have Y:∀(l:k!) (b x:Str),b++l.foldl cs! x=l.foldl cs! (b++x):=by
   intro l
   induction l with
   |nil=>intro b x;rfl
   |cons y l ih=>intro b x;show b++l.foldl _ (x++y)=_;rw[ih,<-Str.append_assoc];rfl
  show b++(⟨l.foldl oC_ x.cps⟩:Str)=_;rw[h,Y];rfl
def a0g(l:k!):(Txt.join bb! l).length=(l.map he!).sum:=by
 have h:∀(l:k!) (b:Str),(l.foldl cs! b).length=b.length+(l.map he!).sum:=by
  intro l
  induction l with
  |nil=>intro b;simp
  |cons y l ih=>intro b;rw[IK,ih,DV,AH,List.sum_cons];omega
 have:=h l mQ_;rw[<-c4w,Str.empty_append]at this;rw[this];show 0+_=_;omega
def a8h{n:Nat}(h:n<=100):(Txt.mul eA! (n:Int)).length<=100:=by
 revert h
 revert n
 decide+kernel
def jA{i:Int}(h:dP_<10 ^ 60):(Str.ofString gn!).length<=61:=by rw[ofString_length];exact int_text_length_le10 c! h
nonrec def iK(W:OW):Prop:=∀x∈W.its,∀d∈W.num x,∃i:Int,d=.int i/\dP_<10 ^ 60
def c8v{p v:Int}(h:DG (.tup rg_)):lk_<10 ^ 60:=by
 generalize e:D.tup rg_=d at h;cases h with
 |move _ _ hc=>
  cases e;rcases hc with hc|⟨_,_,hc,_⟩<;>cases hc
 |set _ _ _ hn=>cases e;exact hn
 |_=>cases e
def b5n(h:iK W)(hd:DG d)(hs:p0!):iK W':=by
 cases hs with
 |put _ _ _=>
  intro x L e he;have cj:e∈vB_:=he;by_cases c:x=n
  .rw[AQ c]at cj;simp only[AE,BO,DN]at cj;exact⟨0,by rcases cj with z|z|z|z<;>exact z,by decide⟩
  .rw[AI c]at cj;have l8:x∈W.its++[n]:=L;exact h x ((AR.mp l8).resolve_right λz=>c p8!) e cj
 |mvY _ _ _ _ _=>exact h
 |mvN _ _ _ _=>exact h
 |drY _ _ _=>exact h
 |drN _ _=>exact h
 |wrt _ _ _ _=>split;exact h;exact h
 |cut _ _ _ _=>split;exact h;exact h
 |@set a p v _ _ _=>
  split
  .intro x L e he;have cj:e∈(if x=a then(oQ_).set p.toNat eh! else W.num x):=he;by_cases c:x=a
   .rw[AQ c]at cj;rcases List.mem_or_eq_of_mem_set cj with z|z
    .exact h a (c▸L) e z
    .exact⟨v,z,c8v hd⟩
   .rw[AI c]at cj;exact h x L e cj
  .exact h
def zS{os:o_}(hr:Run W os W'):kx!->iK W->iK W':=by
 induction hr with
 |nil=>exact λ_=>id
 |cons hs _ ih=>exact λhd h=>ih (λo ho=>hd o (AD _ ho)) (b5n h (hd _ AL) hs)
abbrev sI(i:Int):Str:=Str.ofString gn!
nonrec def a5h(i:Nat)(v:Int):Str:=Str.ofString " ["++sI (i:Nat)++Str.ofString "="++sI v++Str.ofString "]"
nonrec def pA:List f3_->List Str
 |[]=>[]
 |(v,i)::l=>if v=0 then pA l else a5h i v::pA l
def Xp{i:Nat}(hi:i<4):(cP_).natAbs<10 ^ 60:=by rw[Int.natAbs_natCast];exact BE hi c!
def eO{v:Int}(h:ia!):v.natAbs.log2<1920:=by
 have Y:lk_<2 ^ 1920:=Nat.lt_trans h c!;by_cases h0:lk_=0
 .rw[h0];decide
 .exact(Nat.log2_lt h0).mpr Y
def a8r{i:Nat}{v:Int}(hi:i<4)(hv:ia!):(nT_).length<=126:=by
 have B:(lQ_).length<=61:=jA (Xp hi);have Y:(sI v).length<=61:=jA hv;unfold a5h;simp only[DV];have e1:(lP_).length=2:=by decide+kernel
 have e2:(lQ!).length=1:=by decide+kernel
 have e3:(ia_).length=1:=by decide+kernel
 omega
def uL:∀{l:List f3_},(∀q∈l,q.2<4/\q.1.natAbs<10 ^ 60)->((pA l).map he!).sum<=126*P!
 |[],_=>by simp[pA]
 |(v,i)::l,h=>by
  have ih:=uL λq hq=>h q (AD _ hq);have h0:=h (v,i) AL;have:(nT_).length<=126:=a8r h0.1 h0.2;unfold pA;split
  .rw[AJ];omega
  .rw[AH,List.sum_cons,AJ];omega
def qD:∀l:List Str,Yh dH_=some l
 |[]=>rfl
 |x::l=>by rw[AH,Yh,qD l];rfl
nonrec def a8n:D->Int
 |.int i=>i
 |_=>0
nonrec def txS(W:OW)(x:D):Str:=match Ug hl_ ku! with
 |some (.str s)=>s
 |_=>mQ_
nonrec def nmL(W:OW)(x:D):List f3_:=((e7_).map a8n).zipIdx
nonrec def lnS(W:OW)(k:Nat)(x:D):Str:=Txt.mul eA! (k:Nat)++txS W x++Txt.join bb! nW!
section
variable{t:Ca}{M:Mh}{ρ:Ag}{a o:Addr}{rl:Addr->dB}{W:OW}{x:D}{pre:List D}{R:D->Mh->Prop}
def c3u(hw:ds_)(L:cb_)(hl:p8_):Ug hl_ ku!=some (.str (txS W x))/\(txS W x).length<5000:=by
 obtain⟨cs,e1,e2⟩:=a2a dt! λq hq=>hw.chr x L q (o4!).1
 have ls:(dt!).length<=(aF_).length:=FO _ _;have e3:Ug hl_ ku!=some (.str (Txt.join bb! fm_)):=by
  rw[e1];show((Yh kf!).bind λys=>if(he_).sum+M_*(bb!).length<=big then some rl_ else none)=_;rw[dG];show bE_=_;rw[AQ (by rw[iM,eY];unfold big;omega)]
 have e4:txS W x=Txt.join bb! fm_:=by unfold txS;rw[e3]
 rw[e4];exact⟨e3,by rw[a0g,iM];omega⟩
def b5p(nb:iK W)(wi:El W)(L:cb_):(nmL W x).length=4/\∀q∈nmL W x,q.2<4/\q.1.natAbs<10 ^ 60:=by
 have hl:=wi.nl x L;unfold nmL;refine⟨by rw[GC,AU];exact hl,ht!⟩;obtain⟨v,i⟩:=q;have h:=KC hq;have B:i<4:=by have:=h.2.1;rw[AU,hl]at this;omega
 refine⟨B,?_⟩;have Y:v∈(e7_).map a8n:=by
  have:=h.2.2;rw[this];exact CO _
 obtain⟨d,hd,rfl⟩:=AZ.mp Y;obtain⟨j,rfl,hj⟩:=nb x L d hd;exact hj
def c4o(nb:iK W)(wi:El W)(L:cb_):(rm!).length<=504:=by obtain⟨B,Y⟩:=b5p nb wi L;have:=uL Y;rw[a0g];omega
def Ww{p q:Str}(h:rn!):Qj M (.str p) (.str q)=some (.str (p++q)):=by show bE_=_;rw[AQ h]
nonrec def nB:D->Bool
 |.tup [_,.int v]=>v != 0
 |_=>false
nonrec def nY:D->D
 |.tup [.int i,.int v]=>.str (a5h i.toNat v)
 |_=>.non
def a7y:∀(l:b_) (k:Nat),(∀d∈l,∃i:Int,d=.int i)->(((l.zipIdx k).map λq=>D.tup [lb!,q.1]).filter nB).map nY=(pA ((l.map a8n).zipIdx k)).map D.str
 |[],_,_=>rfl
 |d::l,k,h=>by
  have ih:=a7y l Q! λe he=>h e (AD _ he);obtain⟨v,rfl⟩:=h _ AL;rw[EM,AH,AH,EM];show _=(pA ((v,k)::_)).map D.str;unfold pA;by_cases c:v=0
  .rw[CN rq!,AQ c];exact ih
  .rw[CM rq!,AI c,AH,AH,ih];rfl
def c8i{i:Nat}{v:Int}(hi:i<4)(hv:ia!):a1m lP_ lQ! ia_ n! s_ ib_=some (.str nT_):=by have hl:=a8r hi hv;show bE_=_;rw[AQ ⟨eO (Xp hi),eO hv,BN hl c!⟩];rfl
def c1s{k:Nat}(h:ex_)(hw:ds_)(nb:iK W)(L:cb_)(hl:p8_)(hk:k<=90):PuF (Xq t) [aV_,.int ((k:Nat)+1),x] M (.str (lnS W k x)):=λK hK=>by
 have wi:=hw.inv;obtain⟨B,Y⟩:=b5p nb wi L;obtain⟨hj,W8⟩:=c3u hw L hl;have WC:=c4o nb wi L;have hm:=a8h (n:=k) a!;refine m_;show Ao (Az 3 mT!)
  (tq!) rt! M _
 have hc:Pu mT! rt! M (.lst lU_):=λK hK=>by
  unfold Dx xK;refine Pp ey! (h.nob d6k) f1! (λK hK=>oZ h.out wi L hK) _ ?_;refine⟨by rw[AU,GC,wi.nl x L];decide,?_⟩;refine Fx nB nY trivial _ _ bR_ ?_
  .obtain⟨⟨e,i⟩,hq,rfl⟩:=AZ.mp hd;have hz:=KC hq;have hi:i<4:=by have:=hz.2.1;rw[wi.nl x L]at this;omega
   have he:e∈W.num x:=by have:=hz.2.2;rw[this];exact CO _
   obtain⟨v,rfl,hv⟩:=nb x L e he;refine⟨ib_,rfl,hk_,du!⟩
   .have e1:fT to_ ib_=some f8!:=by
     have:f2 Hw s_ C_ ib_=some (.bl f8!):=by
      show Hw eh! G!=_;simp[Hw,Co,Oa,wJ,bne]
     show"!L"
    unfold Gc;rw[e1];exact hK
   .rw[Fa (c8i hi hv)];exact hK
  .rw[a7y _ 0 λd hd=>(nb x L d hd).imp λ_ h=>h.1];exact hK
 refine Sl hc ?_;have ej:sA (fC gu!) G_ rx!=some (.str rm!):=by
  show((Yh lU_).bind λys=>if(he_).sum+M_*(bb!).length<=big then some rl_ else none)=_;rw[qD];show bE_=_;have:=uL Y;rw[AQ (by rw[eY];unfold big;omega)]
 have em:f2 uO gb_ tp! rx!=some (.str (Txt.mul eA! (k:Nat))):=by
  show uO (.str eA!) (.int ((k:Nat)+1 - 1))=_;have e:aZ!+1 - 1=(k:Nat):=by omega
  rw[e];show bE_=_;rw[ry!]
 refine Kr (Ov (Ov (Cu em) (Pp ey! (h.nob d6l) f1! λK hK=>a3c h.out wi L c! hj hK) (Ww dp_)) (Cu ej) (Ww rz_)) hK
end
nonrec def Xy(q:Nat×D):D:=.tup [.int (q.1:Nat),q.2]
nonrec def Zl(a:Addr)(x0:D)(o:Addr)(fd:List ez!)(p:Addr)(y5 y6:ad_):Ag:=[u_,K!,z!,some (.lst (fd.map Xy)),H_,y5,y6]
nonrec def pC:WT:=wT tj!
nonrec def pI:WS:=De tm_
nonrec def pF(t:Ca):WS:=Fn tl! cz! pI
nonrec def pB(t:Ca):WS:=Ao tj_ (Ao tk_ (pF t))
section
variable{M:Mh}{ρ:Ag}{p:Addr}{q:WS}{R:Fl->Mh->Prop}{xs:List D}
def b9s{i:Nat}{fo:d_}(h0:fI_)(hp:M p=some (.lst e3!))(k:q (ρ.set i (some y)) (Cb M p I!) R):Ao (Az i (xM ch!)) q ρ M R:=by
 have cl:Qt M y!=some (p,xs++[y]):=by simp[Qt,hp]
 have gl:e3![(e3!).length - 1]?=some y:=by simp
 unfold Ao Az xM;rw[Fa h0,cl];refine Ud ?_;show Hi (e3![(e3!).length - 1]?) _;rw[gl,List.dropLast_concat];exact k
def d1a{f:aI_}{ρ':Ag}(h:f ρ=some co_)(k:q ρ' M R):Ao (pZ f) q ρ M R:=by unfold Ao pZ;rw[h];exact k
def b8n{fo fa:d_}(h0:fI_)(B:fa ρ=some v)(hp:qp!)(hl:i_<big)(k:R an_ Bf!):De (Tt ch! em!) ρ M R:=by
 have cl:Qt M y!=some (p,xs):=by simp[Qt,hp]
 unfold De Tt;rw[Fa h0,cl];refine Ud ?_;rw[Fa B,cl];exact⟨hl,k⟩
def whT{ft:WT}{n:Nat}(h:A3!)(k:q ρ M λr M2=>match r with|.nx bh=>Ez ft q n bh M2 R|.rt d=>R aY! M2):Ez ft q bD! ρ M R:=by show ft ρ M _;refine h _ ?_;rw[j!];exact k
def whF{ft:WT}{n:Nat}(h:lk!)(k:R an_ M):Ez ft q bD! ρ M R:=by show ft ρ M _;refine h _ ?_;rw[Z!];exact k
end
section
variable{t:Ca}{M M0:Mh}{ρ:Ag}{a o p:Addr}{rl:Addr->dB}{W:OW}{x:D}{R:D->Mh->Prop}
def OS.keepN{M':Mh}(h:ex_)(k:rC_):OS t M' a o rl W:=by obtain⟨ta,wa,e⟩:=h.hob;exact⟨⟨ta,wa,(k a kF_).trans e⟩,h.out.keep λc hc=>k c (h.out.live hc)⟩
def a7j{fd:List ez!}{d:Nat}:∀(cs:b_) (xs:b_) (y6:ad_) (M:Mh) (R:q_),M p=some I!->i_+cg!<90000->
  (∀M' y6,M' p=some (.lst (xs++cs.map λc=>Xy g5!))->fv!->R (.nx l3!) M')->Kf cz! F! pI cs l3! M R
 |[],xs,y6,M,R,hp,_,hR=>⟨trivial,hR M y6 rG! λ_ _=>rfl⟩
 |c::cs,xs,y6,M,R,hp,hl,hR=>by
  refine aO_;rw[AJ]at hl;have ev:Bz tm! ig_=some (Xy g5!):=by
   have e1:f2 Bb tl_ t_ ig_=some (.int rH_):=by
    have e2:f2 Ar B! C_ ig_=some rI!:=by
     show Ar (Xy bD_) G!=_;simp[Xy,Ar,Gf,Ig]
    unfold f2 at e2 ⊢;rw[e2];show some rI_=_;simp
   exact b7f e1 rfl
  show pI ig_ M _;refine b8n (fo:=Aa 4) rfl ev hp (BE (show i_<90000 by omega) c!) ?_;refine a7j cs (xs++[Xy g5!]) (some c) _ R mup_same k0_ λM' y6 e k=>hR M' y6 (by rw[e,AH];simp) λb O=>(k b O).trans fw!
def c0m(T:c1_)(h:OS t M0 a o rl W)(db:M0 p=none)(wi:El W)(hB:ax!<2000):∀(n:Nat) (cm fd:List ez!) (y5 y6:ad_) (M:Mh) (R:q_),(∀b,b≠p->M b=M0 b)->M p=some (.lst (cm.map Xy))->(∀q∈cm,Kh W q.2)->
  (cm.reverse.flatMap λq=>T.T q.1 q.2).length=n->cm.length<=n->fd.length+n<=3000->(∀M' y5 y6,(∀b,b≠p->M' b=M0 b)->R (.nx (Zl a x0 o (fd++cm.reverse.flatMap λq=>T.T q.1 q.2) p y5 y6)) M')->Ez pC (pB t) bD! l7_ M R:=by
 intro n
 induction n with
 |zero=>
  intro cm fd y5 y6 M R hM hp hi hn bq hl hR;have:cm=[]:=GE.mp a!;subst this;have hc:PuT pC l7_ M false:=lM (Ov (qU fX_ (d:=bo!) (by simp[iD,kO,hp])) eu! rfl);refine whF hc ?_;have:=hR M y5 y6 hM;show"#>"
 |succ n ih=>
  intro cm fd y5 y6 M R hM hp hi hn bq hl hR;rcases List.eq_nil_or_concat cm with rfl|⟨init,⟨d,x⟩,rfl⟩
  .simp at hn
  .rw[List.concat_eq_append]at *;have L:Kh W x:=hi bD_ c_;have er:(init++er!).reverse.flatMap rK_=bD_::((bk_).flatMap eE_++init.reverse.flatMap λq=>T.T q.1 q.2):=by
    rw[List.reverse_append,IE,List.singleton_append,DJ,T.eq d x];rfl
   have YA:OS t M a o rl W:=h.keepN λb O=>hM b λz=>O ii!;have ak:iD M [.fn p]=some (.int rL_):=by simp[iD,kO,hp]
   have hc:PuT pC l7_ M true:=by
    refine lM (Ov (qU fX_ ak) eu! ?_);show some (D.bl (decide ((0:Int)<rL_)))=_;rw[BK a!]
   refine whT hc ?_;refine b9s (fo:=Aa 4) (y:=Xy bD_) (xs:=init.map Xy) rfl (by rw[hp,BJ];rfl) ?_;have ea:Zg 3 B! l3!=some (.nx rM_):=by
    show bE_=_;rw[AQ cO_];simp[Zl]
   refine d1a ea ?_;have QG:OS t (Cb M p (.lst (init.map Xy))) a o rl W:=h.keepN λb O=>(mup_ne λz:b=p=>O ii!).trans (hM b λz=>O ii!);unfold pF Fn a6c;have e1:f2 Ar B! t_ rM_=some x:=by
    show Ar (Xy bD_) aS_=_;simp[Xy,Ar,Gf,Ig]
   refine Pp ey! (QG.nob d6n) (Cu e1) (λK hK=>nU QG.out wi c! L hK) _ ?_;have io:(bk_).length<=ax!:=jI;rw[er,AJ]at hn;have YB:init.length<=n:=by rw[AT,CG]at bq;omega
   refine a7j (bk_).reverse (init.map Xy) y6 _ _ mup_same (by rw[AU,GW];omega) λM' qh e k=>?_;have em:init.map Xy++(bk_).reverse.map (λc=>Xy g5!)=(ik!).map Xy:=by rw[BJ,CB];rfl
   have ef:(ik!).reverse.flatMap rK_=(bk_).flatMap eE_++init.reverse.flatMap λq=>T.T q.1 q.2:=by
    rw[List.reverse_append,<-List.map_reverse,List.reverse_reverse,JA,List.flatMap_map]
   refine ih ik! (fd++er!) _ _ M' R (λb O=>((k b O).trans fw!).trans (hM b O)) (by rw[e,em]) dj! (by rw[ef];omega) ?_ k0_ λM2 y5 y6 k2=>?_
   .rcases AR.mp hq with z|z
    .exact hi q h7_
    .obtain⟨c,hc,rfl⟩:=AZ.mp z;exact .inl ((wi.ri c).mp (AM (f:=b!) (Eb.mp (List.mem_reverse.mp hc))))
   .have ge:∀l:List ez!,P!<=(l.flatMap λq=>T.T q.1 q.2).length:=by
     intro l
     induction l with
     |nil=>exact AY _
     |cons q l ih=>rw[DJ,AT,T.eq];simp only[AJ];omega
    have:=ge (ik!).reverse;rw[ef,GW]at this;omega
   .have:=hR M2 y5 y6 k2;rw[er]at this;rw[ef];show"#>"
def b5c(T:c1_)(h:ex_)(wi:El W)(hB:ax!<2000)(L:dh!)(hR:∀M',kz_->R (.lst rO_) M'):jD t [aA_,x] M R:=by
 obtain⟨k,hk⟩:=bZ wi L;refine m_;show Ao th_ (Ao (pZ iT!) (Ao mR_ rP!)) [u_,ay!,none,none,none,none,none] M _;refine Sl (Vm hY! f1! (b9d h hk L)) ?_;show Ao mR_ rP! [u_,ay!,z!,eo_,none,none,none] M _;unfold Ao Az Nf Ac Al;rw[Fa (d:=Xy (0,x)) rfl];refine⟨(by decide:1<=1000),cr_⟩;refine⟨_,c0m T h hp wi hB (x0:=x) _ [(0,x)] [] none none _ _ (λb O=>mup_ne O) mup_same (λq hq=>by rw[kB!];exact L) rfl ?_ ?_ λM' y5 y6 k=>?_⟩
 .show 1<=_;simp only[IE,DJ,List.flatMap_nil,BL,T.eq,AJ];omega
 .have:=T.len wi.rnd 0 x;simp only[IE,DJ,List.flatMap_nil,BL,EG];omega
 .have e:([]++[(0,x)].reverse.flatMap λq=>T.T q.1 q.2)=T.T 0 x:=by simp
  rw[e];show Cn aj_ (Zl a x o (T.T 0 x) p y5 y6) M' _;exact Kr (Cu (d:=.lst rO_) rfl) (hR M' λb O=>k b λz=>O (z▸hp))
end
structure Eqv(W V:OW):Prop where
 its:W.its=V.its
 txt:W.txt=V.txt
 num:W.num=V.num
 ch:∀x,chl W.rows x=chl V.rows x
def wU:chl cD! x=(d0!).filter λc=>decide (c≠i):=by unfold chl wo;rw[GG,GH,GH];congr 1;apply EZ;intro q _;exact Bool.and_comm _ _
def b2h(h:mb_)(w:Wn r1 i x):Wn r2 i x:=by
 induction w with
 |here=>exact .here
 |up B _ ih=>exact .up (Eb.mp (by rw[<-h];exact Eb.mpr B)) ih
def wC{r1 r2:g!}(h:mb_)(n1:(r1.map b!).Nodup)(n2:(r2.map b!).Nodup)(B:gW r1 i p s se)(Y:gW r2 i p s sf)(x:D):chl se x=chl sf x:=by
 by_cases c:p=x
 .subst c;rw[B.chl_same n1,Y.chl_same n2,wU,wU,h]
 .rw[B.chl_ne c,Y.chl_ne c,wU,wU,h]
def gL{P:Prop}(e:D.tup cK!=.tup (.str k'::r'))(h:k≠k'):P:=by
 injection e with e
 injection e with e _
 injection e with e
 exact absurd e h
def b9r{V:OW}(e:Eqv W V)(wi:El W)(vi:El V)(B:oI W n d W1)(Y:oI V n d V1):Eqv W1 V1:=by
 have ei:∀x,Kh W x↔Kh V x:=λx=>by unfold Kh;rw[e.its]
 have ew:∀i x,Wn W.rows i x↔Wn V.rows i x:=λi x=>⟨b2h e.ch,b2h λx=>(e.ch x).symm⟩;generalize ed:d=d' at Y;cases B with
 |put _ _ g1=>
  cases Y with
  |put _ _ g2=>
   cases ed;rename_i a b r1 _ _ r2 _ _;have ep:cI!=(if Kh V a then a else Di):=by simp only[ei]
   rw[ep]at g1;exact⟨by simp only[Kk,e.its],by simp only[Kk,e.txt],by simp only[Kk,e.num],rS!⟩
  |_=>exact gL ed o!
 |mvY _ _ _ c1 g1=>
  cases Y with
  |mvY _ _ _ c2 g2=>cases ed;exact rS_
  |mvN _ _ _ c2=>cases ed;exact absurd rT! c2
  |_=>exact gL ed o!
 |mvN _ _ _ c1=>
  cases Y with
  |mvY _ _ _ c2 g2=>cases ed;exact absurd rT_ c1
  |mvN _ _ _ c2=>exact e
  |_=>exact gL ed o!
 |drY _ c1 g1=>
  cases Y with
  |drY _ c2 g2=>cases ed;exact rS_
  |drN _ c2=>cases ed;exact absurd rT! c2
  |_=>exact gL ed o!
 |drN _ c1=>
  cases Y with
  |drY _ c2 g2=>cases ed;exact absurd rT_ c1
  |drN _ c2=>exact e
  |_=>exact gL ed o!
 |wrt _ _ _ hn=>
  cases Y with
  |wrt _ _ _ ig=>
   cases ed;rw[hn]at ig;cases ig;rw[e.its];split
   .exact rU!
   .exact e
  |_=>exact gL ed o!
 |cut _ _ _ _=>
  cases Y with
  |cut _ _ _ _=>
   cases ed;rw[e.its];split
   .exact rU!
   .exact e
  |_=>exact gL ed o!
 |set _ _ _=>
  cases Y with
  |set _ _ _=>
   cases ed;rw[e.its];split
   .exact⟨e.its,e.txt,by simp only[sY,e.num],e.ch⟩
   .exact e
  |_=>exact gL ed o!
def a5c(rows:g!)(i p s:D):∃r,gW rows i p s r:=by
 by_cases h:s∈chl cD! p
 .obtain⟨u,v,e⟩:=JJ (Eb.mp h);exact⟨_,u++[cD_],v,by rw[e];simp,rfl,.inr oH_⟩
 .exact⟨_,[],wo rows i,rfl,rfl,.inl ⟨h,rfl⟩⟩
def c5r(W:OW){h m:Int}(hd:DG d)(hu:Mf d=none):∃W',oI W hj_ d W':=by
 cases hd with
 |put B Y=>
  obtain⟨r,g⟩:=a5c W.rows _ _ _;exact⟨_,.put B Y g⟩
 |@move a b c B Y h3=>
  by_cases q:a∈W.its/\Kh W b/\¬Wn W.rows a b
  .obtain⟨r,g⟩:=a5c W.rows a b c;exact⟨_,.mvY B Y h3 q g⟩
  .exact⟨_,.mvN B Y h3 q⟩
 |@drop a B=>
  by_cases q:a∈W.its/\Kh W Di/\¬Wn W.rows a Di
  .obtain⟨r,g⟩:=a5c W.rows a Di .non;exact⟨_,.drY B q g⟩
  .exact⟨_,.drN B q⟩
 |write B Y _ _ h3=>exact⟨_,.wrt B Y h3 rfl⟩
 |cut B Y h3 h4=>
  obtain⟨x,y,z,e,h5⟩:=Y;cases e;exact⟨_,.cut B a! h3 h4⟩
 |set B Y h3 _=>exact⟨_,.set B Y h3⟩
 |undo B=>exact absurd hu rV_
 |redo B=>exact absurd hu rV_
def b3l:∀(os:o_) (W:OW) (pre:b_) (hb:Nat),pX W pre->oE W hb->(∀o∈os,DG o.d/\Mf o.d=none)->(∀o∈os,o.nm∉pre)->(kG_).Nodup->
  ∃W',Run W os W'/\po!/\oE W' po_/\∀V V',Eqv W V->pX V pre->Run V os V'->Eqv W' V'
 |[],W,pre,hb,hw,ax,_,_,_=>⟨W,.nil,⟨pre,hw⟩,ax.mono a!,λV V' e _ r=>by cases r;exact e⟩
 |o::os,W,pre,hb,hw,ax,hd,hp,nd=>by
  rw[AH,AX]at nd;have ho:=hd o AL;obtain⟨W1,s1⟩:=c5r W (h:=o.h) (m:=o.n) ho.1 ho.2;have hn:=hp o AL;have w1:=sS s1 hw hn;obtain⟨W',r,g1,g2,g3⟩:=b3l os W1 _ a9_ w1 (ax.stp s1) fv_ (λx L z=>by
   rcases AR.mp z with z|z
   .exact hp x bQ_ z
   .exact nd.1 (by rw[<-show x.nm=o.nm from AV.mp z];exact AM L)) nd.2
  refine⟨W',.cons s1 r,g1,g2.mono sX_,λV V' e hv rv=>?_⟩;cases rv with
  |cons s2 r2=>exact g3 _ _ (b9r e hw.inv hv.inv s1 s2) (sS s2 hv hn) r2
def Tr.mem2{rows:g!}(T:Tr rows):∀{n:Nat} {x:D} {d:Nat},T.f x<n->∀q∈(d0!).flatMap eE_,q.2∈rows.map b!/\d+1<=q.1/\q.1<=d+(rX!).length
 |0,_,_,h,_,_=>absurd h (KA _)
 |n+1,x,d,h,q,hq=>by
  obtain⟨c,hc,hq⟩:=JT.mp hq;obtain⟨u,v,e⟩:=JJ hc;have a8:=Eb.mp hc;have B:=T.dec _ _ a8;have hl:(in_).length<=(rX!).length:=by
   rw[e,JA,DJ];simp only[AT];omega
  have el:(in_).length=((chl rows c).flatMap (T.T (d+1+1))).length+1:=by rw[me_];rfl
  rw[me_]at hq;rcases AE.mp hq with rfl|hq
  .exact⟨AM (f:=b!) a8,AY _,by dsimp only;omega⟩
  .obtain⟨g1,g2,g3⟩:=Tr.mem2 T (n:=n) (x:=c) (d:=d+1) a! q hq;exact⟨g1,r!,r!⟩
nonrec def lw(W:OW)(T:c1_)(d:Nat)(x:D):List Str:=(rZ!).map λq=>lnS W (q.1 - 1) q.2
def d2p{W:OW}{T:c1_}(d:Nat)(x:D):lw W T d x=(bk_).flatMap λc=>lnS W d c::lw W T bd! c:=by unfold lw;rw[List.map_flatMap];exact nJ λc _=>by rw[me_,AH];rfl
nonrec def lN:WS:=Bs nk! uU_ Eu
section
variable{t:Ca}{M M0:Mh}{ρ:Ag}{a o p w:Addr}{rl:Addr->LR}{W:OW}{x:D}{pre:List D}{R:D->Mh->Prop}
def oA{p q:Str}(h:rn!):Bb (.str p) (.str q)=some (.str (p++q)):=by show bE_=_;rw[AQ h]
def c4y{g:aX!}{fa fb:d_}{x:D}(B:pd_)(Y:pS_):f2 g fa fb ρ=g x y:=by unfold f2;rw[B,Y];rfl
def b2w{v:Int}(h:ia!):sR [.int v]=some (.str (sI v)):=by show bE_=_;rw[AQ (eO h)]
def a8i{w:Addr}{ns:b_}(hq:M q=some (.lst ns)):∀(l:List f3_) (s:Str) (y:ad_) (R:q_),(∀z∈l,ns[z.2]?=some (.int z.1)/\z.2<4/\z.1.natAbs<10 ^ 60)->ah_+126*P!<=50000->
  (∀y,R (.nx [w!,H!,gd_,ip!,ip_,some (.str ((pA l).foldl cs! s)),aq!,y]) M)->Kf db_ F! lN r0_ [w!,H!,gd_,ip!,ip_,gZ!,aq!,y] M R
 |[],s,y,R,_,_,hR=>⟨trivial,hR y⟩
 |(v,i)::l,s,y,R,h,hl,hR=>by
  obtain⟨B,Y,h3⟩:=h (v,i) AL;dsimp only at B Y h3;rw[AJ]at hl;refine aO_;show lN eG_ M _;have L:Pu nj_ eG_ M eh!:=by
   refine Ov qN_ (Cu (d:=.int (i:Nat)) rfl) ?_;have ij:i<cx!:=(g7!).1;have:Ec M bl! ib!=Gf ns cP_:=by simp[Ec,hq]
   rw[this];unfold Gf Ig;rw[Y_,Y_];simpa using B
  have ht:PuT nk! eG_ M f8!:=by
   refine lM (Ov L eu! ?_);show Hw eh! G!=_;simp[Hw,Co,Oa,wJ,bne]
  have rest:∀s',s'.length<=ah_+126->(pA l).foldl cs! s'=(pA ((v,i)::l)).foldl cs! s->Kf db_ F! lN r0_ [w!,H!,gd_,ip!,ip_,some (.str s'),aq!,some ib!] M R:=λs' bu he=>by
   refine a8i hq l s' _ R (λz hz=>h z lf!) a! λy=>?_;rw[he];exact hR y
  unfold lN;by_cases c:v=0
  .have e0:f8!=false:=by simp[c]
   rw[e0]at ht;refine kA ht ?_;refine rest s a! ?_;show _=(r1!).foldl _ _;rw[AQ c]
  .have e0:f8!=true:=by simp[c]
   rw[e0]at ht;refine sU ht ?_;have l1:(lQ_).length<=61:=jA (Xp Y);have l2:(sI v).length<=61:=jA h3;have m1:(lP_).length=2:=by decide+kernel
   have m2:(lQ!).length=1:=by decide+kernel
   have m3:(ia_).length=1:=by decide+kernel
   have e1:f2 Bb uR! uR_ eG_=some (.str (s++Str.ofString " ["++sI (i:Nat)++Str.ofString "=")):=by
    have a1:f2 Bb B! uQ_ eG_=some (.str (s++Str.ofString " [")):=oA dp_;have a2:f1 sR i0! eG_=some (.str lQ_):=b2w (Xp Y);have a3:=(c4y (g:=Bb) a1 a2).trans (oA rz_);exact(c4y a3 rfl).trans (oA mf!)
   unfold Az;refine Ov (Ov (Cu e1) (qU L (b2w h3)) (Ww mf!)) (Cu (d:=.str ia_) rfl) (Ww mf!) _ ?_;refine rest _ (by simp only[DV];omega) ?_;show _=(r1!).foldl _ _;rw[AI c,IK];congr 1;unfold a5h;simp only[Str.append_assoc]
nonrec def lB(n:Nat):WS:=Ao uO_
 (Ao uQ!
 (Ao (Fn (Qu (Kd b0!)) db_ lN)
 (Ao (De nl!)
 (Az 3 r2!))))
def Dq.keepN{M':Mh}(h:U!)(k:rC_):Dq M' w rl W:=h.keep λc hc=>k c (h.live hc)
nonrec def c5f(w:Addr)(rl:cN_)(W:OW)(T:c1_)(n:Nat):Prop:=∀(x:D) (d:Nat) (M:Mh) (R:v_),Dq M w rl W->Kh W x->(mg_).length<=n->d+(mg_).length<=60->
 (∀M' p,kz_->M' p=some (.lst ((lw W T d x).map D.str))->R y! M')->Pa n [bq_,x,.int (d:Nat)] M R
def a8f{T:c1_}{n d:Nat}(hw:ds_)(nb:iK W)(ax:mh_)(ih:c5f w rl W T n)(hL:Dq M0 w rl W)(hd:d<=60):∀(cs:b_) (acc:k!) (p:Addr) (y4 y5 y6 y7:ad_) (M:Mh) (R:q_),
  (∀b,M0 b≠none->M b=M0 b)->M0 p=none->M p=some (.lst (acc.map D.str))->(∀c∈cs,c∈W.its/\(in_).length<=n/\d+1+(in_).length<=60)->co!+(cs.flatMap eE_).length<=3000->
  (∀M' p' y4 y5 y6 y7,(∀b,M0 b≠none->M' b=M0 b)->M' p'=some (.lst ((acc++cs.flatMap λc=>lnS W d c::lw W T bd! c).map D.str))->R (.nx [w!,H!,dN!,some (.fn p'),y4,y5,y6,y7]) M')->
  Kf eI_ F! (lB n) cs [w!,H!,dN!,H_,y4,y5,y6,y7] M R
 |[],acc,p,y4,y5,y6,y7,M,R,hM,_,hp,_,_,hR=>⟨trivial,hR M p y4 y5 y6 y7 hM rG!⟩
 |c::cs,acc,p,y4,y5,y6,y7,M,R,hM,db,hp,hc,hl,hR=>by
  obtain⟨jb,yq,bv⟩:=hc c AL;have wi:=hw.inv;obtain⟨k,hk⟩:=(wi.nm c jb).key;have QH:Dq M w rl W:=hL.keepN hM;obtain⟨hj,W8⟩:=c3u hw jb r4_;obtain⟨n1,n2⟩:=b5p nb wi jb;have YC:=c4o nb wi jb;have YD:=a8h (n:=d) a!;rw[DJ,AT,T.eq,AJ]at hl;refine aO_;show lB n r3_ M _;unfold lB;have em:f2 uO gb_ w_ r3_=some (.str (Txt.mul eA! (d:Nat))):=by
   show bE_=_;rw[ry!]
  refine Sl (Ov (Cu em) (Vm r5! r5_ λK hK=>oC QH jb hk r4_ hj hK) (Ww dp_)) ?_;obtain⟨wt,wn,qa,LD⟩:=id QH;obtain⟨e0,W9⟩:=LD.mw;obtain⟨e1,XA⟩:=LD.mn;have hq:=(LD.mq c jb).1;have i1:Ec M cn! nd!=some ep!:=(Tj (k:=some (.inl (.inr "numbers"))) W9 rfl).trans k3n;have i2:Ec M ep! c=some mj!:=by rw[Tj XA hk,Wf,AQ jb]
  refine Sl (Ov (Ov r5! (Cu (d:=p7_) rfl) i1) r5_ i2) ?_;have vn:∃l:List f3_,l=nmL W c/\r6_=[bo!,.int 1,.int 2,.int 3]/\∀z∈l,mj_[z.2]?=some (.int z.1)/\z.2<4/\z.1.natAbs<10 ^ 60:=by
   refine⟨_,rfl,?_,λz hz=>⟨?_,n2 z hz⟩⟩
   .have h4:=wi.nl c jb;unfold nmL
    match YE:W.num c,h4 with
    |[a0,a1,a2,a3],_=>rfl
   .have h5:=KC hz;have h6:z.2<(mj_).length:=by rw[wi.nl c jb];exact(n2 z hz).1
    obtain⟨j,qc,_⟩:=nb c jb _ (CO h6);have h7:z.1=a8n (mj_[z.2]):=by have:=h5.2.2;simpa using this
    rw[BB h6,qc,h7,qc];rfl
  obtain⟨l,el,XB,hz⟩:=vn;have ll:P!=4:=by rw[el];exact n1
  unfold Ao Fn;have ei:Kd b0! r8_=some r6_:=by rw[XB];rfl
  unfold Qu;show Hi (Kd b0! r8_) _;rw[ei];refine a8i hq l _ _ _ hz (by rw[DV];omega) λme=>?_;have LF:(pA l).foldl cs! r7_=lnS W d c:=by rw[<-c4w,el];rfl
  rw[LF];show De nl! r9_ M _;refine b8n (fo:=Aa 3) (fa:=Aa 5) rfl rfl hp cO_ ?_;have cx:∀b,M0 b≠none->Cb M p mm! b=M0 b:=λb O=>(mup_ne λz:b=p=>O ii!).trans (hM b O);show Az 3 r2! r9_ (Cb M p mm!) _;unfold Az xO Ba Ac Al;rw[Fa (f:=Aa 3) (d:=.fn p) rfl,Fa (f:=Aa 0) (d:=bq_) rfl,Fa (f:=Aa 4) (d:=c) rfl,Fa (f:=f2 Bb w_ t_) (d:=.int rH_) (by show some rI_=_;simp)];refine⟨rfl,ih c bd! _ _ (hL.keepN cx) (.inl jb) yq bv λM3 p3 k3 e3=>?_⟩;have XC:M3 p=some mm!:=(k3 p ht_).trans mup_same;have l1:lstM M3 y!=some sa!:=by simp[lstM,XC]
  have l2:lstM M3 (.fn p3)=some ((sd_).map D.str):=by simp[lstM,e3]
  rw[l1,l2];have XD:(sd_).length=((chl W.rows c).flatMap (T.T (d+1+1))).length:=by unfold lw;rw[AU]
  refine⟨by simp only[AT,AU,CG];unfold big;omega,λp4 h4=>?_⟩;have oy:∀b,M0 b≠none->M3 b=M0 b:=λb O=>(k3 b (by rw[cx b O];exact O)).trans (cx b O);have QI:M0 p4=none:=HJ λz=>by
   rw[oy p4 z]at h4;exact z h4
  refine a8f hw nb ax ih hL hd cs (acc++lnS W d c::lw W T bd! c) p4 _ _ _ _ _ R (λb O=>(mup_ne λz:b=p4=>O (z▸QI)).trans (oy b O)) QI ht_ (λc' a8=>hc c' (AD _ a8)) (by rw[AT,AJ,XD];omega) λM' p' y4 y5 y6 y7 g1 g2=>hR M' p' y4 y5 y6 y7 g1 ?_;rw[g2,DJ];simp
def a2m(T:c1_)(hw:ds_)(nb:iK W)(ax:mh_):∀n,c5f w rl W T n
 |0=>λx d M R _ _ h _ _=>by rw[T.eq,AJ]at h;omega
 |n+1=>λx d M R hL L hn hd hR=>by
  have ih:=a2m T hw nb ax n;have wi:=hw.inv;refine m_;show Ao (Az 3 go!) (Ao (Fn uO! eI_ (lB n)) iT_) [w!,ay!,dN!,none,none,none,none,none] M _;unfold Ao Az Nf Al;refine⟨W!,cr_⟩;have hM:∀b,M b≠none->Cb M p bW_ b=M b:=λb O=>mup_ne λz:b=p=>O (z▸hp);unfold Fn Et;have lr:=ax.rows;refine gV (a:=bq_) (b:=x) rfl rfl (xG (hL.keepN hM) wi (vW wi L) a! ?_);have XE:=T.len wi.rnd d x;have he:(mg_).length=(rZ!).length+1:=by rw[T.eq d x];rfl
  show Kf eI_ F! (lB n) bk_ [w!,ay!,dN!,H_,none,none,none,none] (Cb M p bW_) _;refine a8f hw nb ax ih hL a! bk_ [] p none none none none _ _ hM hp mup_same fq! (by simp only[EG];omega) λM' p' y4 y5 y6 y7 g1 g2=>?_
  .have a8:=Eb.mp hc;have:=T.child (d:=d) a8;exact⟨(wi.ri c).mp (AM (f:=b!) a8),r!,r!⟩
  .rw[CZ,<-d2p]at g2;exact hR M' p' g1 g2
end
def c1y{W W':OW}(hs:p0!):∀x∈W'.its,x∈W.its\/x=n:=by
 cases hs with
 |put _ _ _=>
  intro x L;have l8:x∈W.its++[n]:=L;exact(AR.mp l8).imp id AV.mp
 |mvY _ _ _ _ _=>exact λx L=>.inl L
 |mvN _ _ _ _=>exact λx L=>.inl L
 |drY _ _ _=>exact λx L=>.inl L
 |drN _ _=>exact λx L=>.inl L
 |wrt _ _ _ _=>split;exact λx L=>.inl L;exact λx L=>.inl L
 |cut _ _ _ _=>split;exact λx L=>.inl L;exact λx L=>.inl L
 |set _ _ _=>split;exact λx L=>.inl L;exact λx L=>.inl L
def c1z{W W':OW}{os:o_}(hr:Run W os W'):∀x∈W'.its,x∈W.its\/x∈os.map Op.nm:=by
 induction hr with
 |nil=>exact λx L=>.inl L
 |cons hs _ ih=>
  intro x L;rcases ih x L with z|z
  .rcases c1y hs x z with z|z
   .exact cC_
   .exact .inr (by rw[z,AH];exact AL)
  .exact .inr (AD _ z)
def yM{W:OW}{os:o_}(wi:El W)(hr:Run W0 os W):ax!<=aQ!:=by
 have B:=a4m (m:=os.map Op.nm) wi.rnd λx L=>(c1z hr x ((wi.ri x).mp L)).resolve_left λz=>by cases z
 simpa using B
nonrec def Tr.cast{r1 r2:g!}(T:Tr r1)(h:mb_):Tr r2:=⟨T.T,T.f,λx c hc=>T.dec x c (Eb.mp (by rw[h];exact Eb.mpr hc)),λd x=>by rw[<-h];exact T.eq d x⟩
section
variable{t:Ca}{M:Mh}{ρ:Ag}{a ta wa:Addr}{W:OW}{S:List Op}{kl:List Int}{ca:Int->Addr}{pre:List D}{R:D->Mh->Prop}
def b3c(T:c1_)(hA:q7!)(hH:Hist S)(hS:fR!)(hr:Run W0 q7_ W)(hw:ds_)(nb:iK W)(ax:mh_)(XF:ax!<=64)
  (hR:∀M',R iA_ M'):jC t [aA_] M R:=by
 have wi:=hw.inv;refine m_;show Ao (Az 1 iS_) tr! [u_,none] M _;unfold Ao Az;refine a2e (a:=aA_) rfl (c1c hA hH hS hr λM1 o af h _=>?_);show Cn _ [u_,z!] M1 _;unfold Cn Dx Et wSl;refine gV (a:=aA_) (b:=root) rfl rfl (b5c T h wi a! (.inr aB_) λM2 k2=>?_);have Y:=h.keepN k2;have XE:=T.len wi.rnd 0 root;have he:(T.T 0 root).length=(iB!).length+1:=by rw[pF!];rfl
 have ec:Ge sj_ dr! none=(iB!).map Xy:=by
  rw[pF!,AH];generalize (pE!).flatMap (T.T (0+1))=l;simp[Ge,HT.sIx];exact IB (by rw[AU];exact AY _)
 show(sm_).length<=big/\nT _ _ _ _ _ sm_ M2 _;rw[ec];refine AG_;refine Fx fs! sl_ trivial _ _ bR_ ?_
 .obtain⟨⟨k,x⟩,hq,rfl⟩:=AZ.mp hd;obtain⟨g1,g2,g3⟩:=T.mem2 (n:=T.f root+1) (x:=root) (d:=0) eS_ _ hq;dsimp only at g1 g2 g3;have g3:k<=0+(iB!).length:=g3;obtain⟨k,rfl⟩:∃k',k=k'+1:=⟨k - 1,r!⟩;refine⟨[some kY!,ay!,z!],rfl,hl!,du!⟩;have L:=(wi.ri x).mp g1;have e1:kX!=(k:Nat)+1:=by simp
  have hk:sn_=k:=by simp
  have hl:=c1s (k:=k) Y hw nb L (CW (ax.txt x) c!) a!;rw[<-e1]at hl;refine b4f ey! (Cu (d:=.int kX!) rfl) f1! hl _ ?_;have mf:K (.str (lnS W sn_ x)) M2:=hK;rw[hk]at mf;exact mf
 .have e2:(((iB!).map Xy).filter λ_=>true).map sl_=(iz_).map D.str:=by
   rw[DD.mpr λ_ _=>rfl,CB];unfold lw;rw[CB];apply CJ;intro q _;show D.str (lnS W (((q.1:Nat):Int).toNat - 1) q.2)=_;rw[FA];rfl
  rw[e2];exact hR M2
def c2o(h:ci!)(hd:Oa d<=40):Cg d d=some E!:=by unfold Cg;rw[h,cK d h,BK hd];rfl
def a3d(l:k!):Co ms_=true/\Oa ms_<=40:=by
 show"!Q"
 .show Eg dH_=true;exact eJ λd hd=>by obtain⟨s,_,rfl⟩:=AZ.mp hd;rfl
 .show Hx dH_+1<=40;have:=nQ (n:=1) (ds:=l.map D.str) λd hd=>by obtain⟨s,_,rfl⟩:=AZ.mp hd;simp[Oa]
  omega
def a9s{l:k!}(hl:P!<=1000):Ui (Fk nn!) (Fk nn_) gi!=some false:=by
 obtain⟨ys,e,_,hr⟩:=Sh (ρ:=ch_) (bnd:=Dl 0) (ft:=kf_) (fe:=Gp "str" n!) qU! dH_ (by
  intro d hd;obtain⟨s,_,rfl⟩:=AZ.mp hd;exact⟨[gZ!],true,rfl,rfl,λ_=>⟨if_,rfl,rfl⟩⟩)
 have hc:Jq 1 [] (Iz G_) S! aL! mc! gi!=some aU!:=by
  show(if(dH_).length<=big then Option.map D.lst (Jy _ _ _ ch_ dH_)else none)=_;rw[AQ cO_,e];rfl
 have ha:f1 Yd u2_ gi!=some E!:=by
  rw[a8u (b8o hc)];show"#+"
 have B:Fk nn! gi!=some false:=rfl;have Y:Fk nn_ gi!=some false:=by
  unfold Fk fT;rw[ha];rfl
 unfold Ui;rw[B,Y];rfl
def c7i{f:d_}{m k:Int}(h:f ρ=some bP!)(hk:0<k):f2 En f (fC hS!) ρ=some (.int (m%k)):=by unfold f2;rw[h];show Hm oe! (λi j=>.int (i%j)) bP! hS!=_;simp[Hm,hk]
def c9q{f g:d_}{a:D}(B:k6_)(Y:k7!):Ad f (Ad g An) ρ=some ag!:=by unfold Ad;rw[B,Y];rfl
def yD{i:Nat}{f:WE}{q:WS}{R:q_}(h:f ρ M λd M1=>q bO_ M1 R):Ao (Az i f) q ρ M R:=h
def b8l{g:WF}{f1:WE}{f2 f3:d_}{K:v_}(Y:fi_)(h3:kq_):Ba 3 g (Ac f1 ye!) ρ M K=f1 ρ M λa M1=>(cV_).length=3/\g cV_ M1 K:=by unfold Ba Ac Al;simp only[Fa Y,Fa h3]
def d0l{g:bV!}{fa:d_}{fb:WE}{K:v_}(h:pd_):w2 g em! fb ρ M K=fb ρ M λy M2=>match g M2 x y with|some d=>K d M2|none=>False:=by
 unfold w2;rw[Fa h]
 try congr 1
def c5w{f:WE}{R:q_}(h:f ρ M λd M1=>R aY! M1):Cn f ρ M R:=h
def b6f{ns:D!}(nd:t.nd):c4x t lG! M0 (λd _=>d=.bl true):=by
 obtain⟨m,em,m0,_⟩:=Sz ns (k:=60);have YF:0<=m%13:=EI _ c!;have UU:m%13<13:=DP _ c!;obtain⟨N,hN⟩:∃N:Nat,(N:Int)=m%13:=⟨(m%13).toNat,r!⟩;obtain⟨os,ew,hl,hO⟩:=a9k ns 0 N a!;have lu:aQ!<64:=by omega
 have hp:(iE!).Perm os:=Ev os;have u9:(mv!).Sublist iE!:=GX;have YG:(mv!).length<=13:=by have:=u9.length_le;have:=hp.length_eq;omega
 obtain⟨W,hr,⟨pre,hw⟩,ax,XG⟩:=b3l mv! W0 [] 0 a9h b8p (λo ho=>⟨(ss_).dg,(DH (DO.mp ho).2).1⟩) (λ_ _=>by simp) (((hz_).nodup_iff.mpr hO.names).sublist (u9.map _));have wi:=hw.inv;have nb:iK W:=zS hr st_ λx L=>by cases L
 have XF:=yM wi hr;obtain⟨T⟩:=d0o wi.rk;have YH:(iz_).length<=64:=by
  have B:=T.len wi.rnd 0 root;rw[pF!,AJ]at B;unfold lw;rw[AU];have:((pE!).flatMap (T.T (0+1))).length<=ax!:=by omega
  omega
 refine m_;show Ao uY_ _ gj! M0 _;have e1:f1 Sf (Ad n! nl_) gj!=some lg!:=by
  have B:f1 Fe uX! gj!=some bP!:=(a8u (c9q (f:=Aa 0) (g:=fC l6_) rfl rfl)).trans em;have Y:=c7i (ρ:=gj!) B (k:=13) c!;have h3:Ad n! nl_ gj!=some [do_,bo!,.int N]:=by
   rw[<-hN]at Y;exact c9p rfl rfl Y
  exact(a8u h3).trans ew
 refine sZ e1 ?_;show Ao uZ_ _ [X!,lg_,none,none] M0 _;refine yD ?_;refine b1e λa ta wa M1 ha hA _=>?_;show Ao u0_ _ su! M1 _;refine yE (gV (a:=aA_) (b:=.lst ap_) rfl rfl (b9o nd hA hO lu λM2 kl ca LC=>?_));show Ao u1! _ su! M2 _;refine yD (a2e (a:=aA_) rfl (b3c T LC hO lu hr hw nb p5_ a! λM3=>?_));show Ao u4! u5! [X!,lg_,u_,some iA_] M3 _;refine aO (a7c (a9s a!)) (c5w ?_);rw[d0l (fa:=Aa 3) (x:=.lst mo_) rfl,b8l (f2:=fC gb!) (f3:=fC G!) (b:=root) (c:=.int c6!) rfl rfl];refine a2e (a:=.lst ap_) rfl (b8t hO.keys hO.names lu (λo ho=>(hO.op o ho).dg) λw M4 rl V _ LG hL ⟨YI,hv⟩ XH _=>?_);have ev:Eqv W V:=XG W0 V ⟨rfl,rfl,rfl,eS!⟩ a9h LG;have vi:=hv.inv;have XI:iK V:=zS LG st_ λx L=>by cases L
 have YJ:=yM vi LG;have YK:=(my_).len vi.rnd 0 root;refine⟨rfl,a2m my_ hv XI XH 20 root 0 M4 _ hL (.inr aB_) a! a! λM5 p _ e5=>?_⟩;have XJ:lw V my_ 0 root=lw W T 0 root:=by
  have LF:∀k x,lnS V k x=lnS W k x:=λk x=>by
   unfold lnS nmL txS yB;rw[ev.num,ev.txt]
  unfold lw;rw[ev.ch];exact CJ λq _=>LF _ _
 rw[XJ]at e5;have er:yP M5 y!=.lst mo_:=by simp only[yP,e5]
 have hq:eqM M5 iA_ y!=some E!:=by
  unfold eqM;rw[er];obtain⟨n1,n2⟩:=a3d iz_;exact c2o n1 n2
 show(match eqM M5 iA_ y! with|some d=>_|none=>False);rw[hq]
end
end K26
namespace K26
open PySem L2 DL
section
variable{P:Program}{w:World}{K:W.Frag}{mg:Str->Option Value}{base:Heap}{t:Ca}
def Vq(T:h!):Ok P w K mg base 1 "is_whole" q! (La):=
 Iy (h2:=[]) (k:=0) T.C8 yG (λhr=>(Bt (Da (Tq (Qg c2c rfl T.Q4 rfl T.Q3 Ej c9k E_) (Tq (c8z (Qg b6u rfl T.Q4 rfl T.P9 Ej c3j E_)) (Oh (Ld a7t a7v (Dy b8j c9h rfl T.P7 c9l b3!) (Bk c6r c6y Ae Ae) v!)))))))
def Ps(T:h!):Ok P w K mg base 2 "is_from_one" q! (Ht):=
 Iy (h2:=[]) (k:=1) T.D1 kR (λhr=>(Bt (Da (Tq sz! (Oh (Ld d2c d2e E_ Ae v!))))))
def Vr(T:h!):Ok P w K mg base 2 "is_below" f1_ (Mw):=
 Iy (h2:=[]) (k:=1) T.C9 yI (λhr=>(Bt (Da (Tq sz! (Oh (a1u Vo Vp a7t a7v Ae E_ V_))))))
def Pr(T:h!):Ok P w K mg base 3 "is_name" q! (Ia):=
 Iy (h2:=[]) (k:=2) T.D2 a3k (λhr=>(Br mB_ (Bt (Da (Tq (Bh (Vr T) e! rfl (Ah a4! (Ah (Nx T.R8 rfl) Au)) aD!) (Oh sC_))))))
def Ue(T:h!):Ok P w K mg base 4 "is_sign_name" q! (Hz):=
 Iy (h2:=[]) (k:=3) T.D3 gX (λhr=>(Br mB_ (Bt (Da (Tq sE! (Oh (Bh (Vr T) e! rfl (Ah a4! (Ah mE_ Au)) aD!)))))))
def a4f(T:h!):Ok P w K mg base 4 "is_item" q! (Mv):=
 Iy (h2:=[]) (k:=3) T.D4 a3l (λhr=>(Bt (Da (sD sG! (sD sH! (Oh sH!))))))
def oX(T:h!):Ok P w K mg base 4 "is_sibling" q! (Jx):=
 Iy (h2:=[]) (k:=3) T.D5 oO (λhr=>(Bt (Da (sD sH_ (Oh sG!)))))
def uF(T:h!):Ok P w K mg base 5 "is_behind" q! (Lh):=
 Iy (h2:=[]) (k:=4) T.D6 tK (λhr=>(Bt (Da (sD sH_ (Oh (Bh (Ue T) e! rfl b3! aM!))))))
def a4e(T:h!):Ok P w K mg base 1 "is_sign" dG_ (Mt):=
 Iy (h2:=[]) (k:=0) T.D7 a3i (λhr=>(Bt (Da (Tq (a1u Vo Vp Vo Vp Be E_ Be) (Oh (Ld qY rA (Dy b8h c9g rfl T.Q7 c9j b3!) (Nx T.S7 rfl) v!))))))
def a4d(T:h!):Ok P w K mg base 2 "is_text" q! (Se):=
 Iy (h2:=[]) (k:=1) T.D8 a3h (λhr=>(Br (Nv (iG (nM (Ma (Kg sN!)) (aA (Ma (b7m Vo Vp Vo Vp Ae gk_ mE_))))) eM_ Hr) (Bt (Da (Dy iM_ wW rfl T.P8 wZ (Ah (Tp (NL:=dG_) (NF:=[]) (ix:=[]) rfl c! o! (Dp (sc:=Ai Zb) rfl o!) Hg.nil c! rfl (c8u E_) (λ_ _ _ _ _=>Cc (i:=0) (show(dG_:List Str).Nodup by decide+kernel) rfl a_) aM_ eN_ (λ_ _ _ _ _=>(Bh (a4e T) e! rfl b3! aM!))) Au))))))
def zN(T:h!):Ok P w K mg base 3 "is_place" q! (Qb):=
 Iy (h2:=[]) (k:=2) T.D9 yH (λhr=>(Bt (Da (Bh (Vr T) e! rfl (Ah E_ (Ah (Nx T.S0 rfl) Au)) aD!))))
def Ou{g:W_}{ps:k!}{k:Nat}(h:Ok P w K mg base k x ps g)(hm:mg x=some bP_)(hp:S_=1)(hk:k<=5):∃fd ps,S_=1/\Km P w K mg base iL 5 σ fd ps j6_/\Js K fd ps []/\W.keepIn K bP_=true:=by obtain⟨f',fd,B,Y,h3,h4⟩:=h;rw[hm]at h3;cases h3;exact⟨fd,ps,hp,B.mono hk,Y,h4⟩
def c2m(T:h!):c5g P w K mg base 5 1 (Ux t):=by
 intro σ g e;unfold Ux at e;show"!5"
 .show"!7";exact Ou (a4f T) T.S9 rfl c!
 show"!5"
 .show"!7";exact Ou (oX T) T.T0 rfl c!
 show"!5"
 .show"!7";exact Ou (uF T) T.T1 rfl c!
 show"!5"
 .show"!7";exact Ou (a4d T) T.T2 rfl c!
 show"!5"
 .show"!7";exact Ou (Ue T) T.T3 rfl c!
 show"!5"
 .show"!7";exact Ou (Ps T) T.T4 rfl c!
 show"!5"
 .show"!7";exact Ou (zN T) T.T5 rfl c!
 show"!5"
 .show"!7";exact Ou (Vq T) T.T6 rfl c!
 show"!5"
 .show"!7";exact Ou (Pr T) T.T7 rfl c!
 cases e
def Sw(T:h!):Hv P w K mg base 1 t.B3 "have" f7! (Ik t):=
 Ee (h2:=[]) (k:=0) T.T8 T.K7 tR (λhr=>(Am (Dd (bN Ff a5r rfl T.Q5 Ix (Ak (mI y_ eO_ x! mL_ c8!) Bd)))))
def a4i(T:h!):b1x P w K mg base 1 "Hand" t.B3 f6_ (Xs t):=
 uJ (h2:=[]) (k:=0) T.K6 a3n (λhr=>(Aj (Lv T.T8 T.U9 l! x!) (Aj (Lv T.T8 T.V0 l! Kn) (Aj (Lv T.T8 T.V2 l! (bL Bd)) sV!))))
def b5m(T:h!):Ok P w K mg base 1 "_law_cell" c0! (cF):=
 Iy (h2:=[]) (k:=0) T.N7 b3f (λhr=>(Br (Nv (a1n E_) sW! Hr) (Bt (Da Ae))))
def uI(T:h!):Yz P w K mg base 1 "_law_children" bZ_ (Qr):=
 Es (h2:=[]) (k:=0) T.P3 tQ (λhr=>(Am (Dd (Tc (NL:=[bf!]) (NF:=[bv!]) (ix:=[1]) rfl c! o! (Dp (sc:=Ai Sn) rfl o!) iN_ c! rfl (Ji a5!) mN! aM_ s0_ mN_))))
def Na(T:h!):Ok P w K mg base 2 "_law_mix" c0! (Fe):=
 Iy (h2:=[]) (k:=1) T.N8 tN (λhr=>(Br (Lc (i:=2) tN.nd rfl a_ (Bk Kv Kw (Bk Ay Cq (Bh (b5m T) e! rfl (Ah E_ eQ!) aD!) (Bk dZ eB Ae s3_)) Ae)) (Br (Lc (i:=2) tN.nd rfl a_ (Bk Kv Kw (Bk dZ eB ak_ Ae) Ae)) (Bt (Da (Bk Kv Kw (Bk Ay Cq (Bk dZ eB (Bk Xg Xh ak_ Ae) Ae) ak_) Ae))))))
def b0w(T:h!):Ok P w K mg base 1 "_law_items" aH! (Wo):=
 Iy (h2:=[]) (k:=0) T.N9 b0b (λhr=>(Bt (Da (Bk Ay Cq (Bk Ay Cq (Qf (n:=8) rfl) (Tp (NL:=[bf!]) (NF:=[]) (ix:=[]) rfl c! o! (Dp (sc:=Ai dH) rfl o!) Hg.nil c! rfl iP_ s6_ aM_ (λ_ _ _ _ _=>d1v (Cw aD_ Du mP! Be v!)) s8!)) (Qf (n:=12) rfl)))))
def b0v(T:h!):Ok P w K mg base 1 "_law_signs" aH! (Wm):=
 Iy (h2:=[]) (k:=0) T.O0 Xa (λhr=>(Br (Wt (i:=1) Xa.nd rfl a_ (Ah Gx (Ah s9! Au))) (Br (a5l BQ rfl iP_ Xa.nd rfl a_ (Bt (Nv (Cw aD_ Du iQ_ Be v!) (Bt (a5l BQ rfl (Nw rfl T.Q8 (Dy Ff Jr rfl T.Q5 Ix (Ah iQ_ Au))) Xa.nd rfl a_ (Bt (Xu (i:=1) c! (Fw (Ah a6! (Ah a6! mQ!))))))) Hr))) (a1q (Bt (Da V_))))))
def b5i(T:h!):Ok P w K mg base 1 "_law_text" n6_ (cE):=
 Iy (h2:=[]) (k:=0) T.O1 yK (λhr=>(Br (Lc (i:=2) yK.nd rfl bn! Be) (Bt (Da (a8y Be (Tp (NL:=[be_]) (NF:=[c0_,lY_]) (ix:=[0,2]) rfl c! o! (Dp (sc:=Ai kC) rfl o!) (Hg.cons (j:=0) tc_) c! rfl (Nw rfl T.Q8 (Bk Ay Cq Ae (Bk Kv Kw E_ V_))) (λ_ _ _ _ _=>Cc (i:=0) (show([be_,c0_,lY_]:List Str).Nodup by decide+kernel) rfl a_) aM_ eN_ (λ_ _ _ _ _=>(Av Ap At ak_ (Bk Kv Kw (Bk Xg Xh V_ (Bk Ay Cq Ae (Bk dZ eB Ae E_))) Ae) r_))))))))
def Rw(T:h!):Ok P w K mg base 1 "_law_pick" f9! (Hn):=
 Iy (h2:=[]) (k:=0) T.O2 b3d (λhr=>sW!)
def b5l(T:h!):Ok P w K mg base 3 "_law_deed" l0! (Tl):=
 Iy (h2:=[]) (k:=2) T.O3 Ki (λhr=>(Br (Lc (i:=4) Ki.nd rfl a_ (Bh (Na T) e! rfl (Ah E_ eQ!) aD!)) (Br (Lc (i:=5) Ki.nd rfl a_ (Bh (b0w T) e! rfl eR_ aM!)) (Br (Lc (i:=6) Ki.nd rfl a_ (Bh gq_ e! rfl (Ah (Bk Ay Cq (Hs al! c7_ Iv) (Hs al! Iv c7_)) gr!) aD!)) (Br (Lc (i:=7) Ki.nd rfl a_ (Bh gq_ e! rfl (Ah (Bk Ay Cq al! gr_) gr!) aD!)) (Br (Nv (Kg (Qg jB rfl T.Q4 rfl T.R4 Ej fH cy!)) (Bt (Lc (i:=7) Ki.nd rfl a_ Gx)) Hr) (Br (Lc (i:=8) Ki.nd rfl a_ (Qf (n:=19) rfl)) (Br (Lc (i:=9) Ki.nd rfl a_ (Av Ap At b5! ti_ r_)) (Br (Nv gs! (Bt (Da (Fw (Ah cy_ tk!)))) Hr) (Br (Nv gs! (Bt (Da (Fw (Ah cy_ (Ah bL! tk!))))) Hr) (Br (Nv gs! (Bt (Da (Fw (Ah cy_ mS_)))) Hr) (Br (Lc (i:=10) Ki.nd rfl a_ (Bh gq_ e! rfl (Ah (Bh (b0v T) e! rfl eR_ aM!) gr!) aD!)) (Br (Nv gs! (Bt (Da (Fw (Ah cy_ (Ah bL! (Ah iU! (Ah (Bh (b5i T) e! rfl (Ah tg! mQ!) aD!) Au))))))) Hr) (Br (Nv (iG (nN gs! (cN (Cw Xe Xj iU! Gx v!)))) (Bt (Da (Fw (Ah cy_ (Ah bL! (Ah iU! (Ah (Bk Ay Cq Ae (Bk Kv Kw tp_ (Bk Zm Zq Ae (Av Ap At iU! Ae r_)))) Au))))))) Hr) (Br (Nv (Cw b0r d2g cy_ gr_ rfl) (Bt (Da (Fw (Ah Be (Ah bL! (Ah tq_ (Ah (Bk Zm Zq tq_ Ae) Au))))))) Hr) (Br (Lc (i:=11) Ki.nd rfl a_ (Bk Ay Cq (Tp (NL:=[bf!]) (NF:=[]) (ix:=[]) rfl c! o! (Dp (sc:=Ai kH) rfl o!) Hg.nil c! rfl (Mb ak_) s6_ aM_ eN_ s8!) (fA (Ah (Fw (Ah Ae (Ah (Bk Ay Cq Ae ti_) Au))) Au)))) (Bt (Da (Fw (Ah cy_ (Ah (Bh gq_ e! rfl (Ah (Ab 11) gr!) aD!) Au)))))))))))))))))))))
def zQ(T:h!):Yz P w K mg base 1 "_law_hang" c1! (Lz):=
 Es (h2:=[]) (k:=0) T.O7 Rs (λhr=>(Aj (Xl (i:=4) (NL:=[bf!]) (NF:=[bv!]) (ix:=[1]) Rs.nd rfl a_ rfl c! o! (Dp (sc:=Ai kE) rfl o!) iN_ c! rfl (Ji a5!) mN! aM_ (λ_ _ _ _ _=>fX (Kl (Cw eU! eH a4! V_ v!))) mU!) (Aj (Bo (i:=5) Rs.nd rfl a_ aw!) (Aj (Pv BQ (Kl (iG (nN (Cw a7t a7v al! tu! v!) (cN (Cw eU! eH (Av Ap At (Av Ap At by_ al! r_) Ae r_) ak_ v!))))) (Am (Bo (i:=5) Rs.nd rfl a_ (Af (Bk Ay Cq al! Ae))))) (Aj (Jn BQ rfl (eL (Nw rfl T.Q8 tu!)) (Cc (i:=6) Rs.nd rfl a_) (Go 6) (Am (Fd (Kl (iG (nN (Cw Xe Xj aE_ Gx v!) (cN (Cw aD_ Du (Av Ap At by_ bL! r_) (Fw (Ah aE_ eR_)) v!))))) (Am (Bo (i:=5) Rs.nd rfl a_ (Af (Bk Ay Cq bL! Ae)))) Dv))) (Am (Gu y_ l! aT! (Af (Bk Ay Cq (Bk Ay Cq (Hs by_ Iv (Iu al!)) (fA (Ah (Fw (Ah V_ eR_)) Au))) (Hs by_ (Iu al!) Iv))))))))))
def b5k(T:h!):Yz P w K mg base 1 "_law_lies" l3_ (Xr):=
 Es (h2:=[]) (k:=0) T.O8 kW (λhr=>(Aj (Pv BQ (Kl tB_) (Aj (Xl (i:=3) (NL:=[bf!]) (NF:=[bv!]) (ix:=[1]) kW.nd rfl a_ rfl c! o! (Dp (sc:=Ai kD) rfl o!) iN_ c! rfl (Ji a5!) mN! aM_ s0_ mN_) (Aj (Fd (Kl (Ma (a1n aE_))) mY! Dv) (Am (Bo (i:=1) kW.nd rfl bn! gw_))))) mY!))
def zP(T:h!):Yz P w K mg base 2 "_law_move" c1! (Qq):=
 Es (h2:=[]) (k:=1) T.O9 b3e (λhr=>(Am (Fd (zZ (Zr (Jc b6_ Kb x! a5! rfl) (Sx (zZ (d2m (Jc b6_ Kb Q_ a5! rfl) (c7g (Jc b6_ Kb Q_ (Af gr_) rfl))))))) (Am (Fd (eK (Lu (Bm (b5k T) e! rfl (Ak l! mZ!)))) (Am (Em (Bm (zQ T) e! rfl (Ak l! (Ak x! (Ak Q_ iZ!)))))) Dv)) Dv)))
def c7b(T:h!):Yz P w K mg base 3 "_law_do" l5! (a8p):=
 Es (h2:=[]) (k:=2) T.P0 Pl (λhr=>(Aj (Bo (i:=2) Pl.nd rfl bn! gx_) (Aj (Bo (i:=3) Pl.nd rfl bn! (Af (Fw (Ah eV_ (Ah eV_ Au))))) (Am (Fd b7! (Aj (Bo (i:=4) Pl.nd rfl a_ (c4s (Td b6_ Kb bz! a5! rfl) (mH (Af (Ld aD_ Du a6! Be v!))))) (Aj (Gu y_ a5! aw_ mL_) (Aj (Gu y_ a5! aw_ (bL (Ak aw! (Ak aw! (Ak aw! i1_))))) (Am (Em (Bm (zQ T) e! rfl (Ak l! (Ak aw_ (Ak (Af (d3m (Kg by_) a6! Be)) i2!))))))))) (Am (Fd b7! (Am (Em (Bm (zP T) e! rfl (Ak l! gy_)))) (Am (Fd b7! (Am (Em (Bm (zP T) e! rfl (Ak l! tP_)))) (Am (Fd m0! (Am (Gu y_ tQ_ bz! bz!)) (Am (Fd m0! (Aj tR! (Aj (Bo (i:=6) Pl.nd rfl a_ aw!) (Aj (Jn BQ rfl (eL (Nw rfl T.Q8 (Dy Ff Jr rfl T.Q5 Ix (Ah al! Au)))) (Cc (i:=7) Pl.nd rfl a_) (Go 7) (Am (Fd (Kl (Cw aD_ Du (Av Ap At (Av Ap At al! cy! r_) Ae r_) a6! v!)) (Am (Bo (i:=6) Pl.nd rfl a_ (Af (Bk Ay Cq cy! Ae)))) Dv))) (Aj (Xl (i:=8) (NL:=[be_]) (NF:=[eE!,l4!]) (ix:=[2,3]) Pl.nd rfl a_ rfl c! o! m1! (Hg.cons (j:=2) (Hg.cons (j:=3) Hg.nil)) c! rfl (eL (Nw rfl T.Q8 (Dy Ff Jr rfl T.Q5 Ix (Ah a6! Au)))) (λ_ _ _ _ _=>Cc (i:=0) (show([be_,eE!,l4!]:List Str).Nodup by decide+kernel) rfl a_) aM_ gz_ (λ_ _ _ _ _=>(Af (Fw (Ah (Bk Ay Cq ak_ (Fw b3!)) (Ah (Av Ap At eV_ E_ r_) (Ah On Au))))))) (Am (Gu y_ a5! bz! (Af (Bk Ay Cq (Bk Ay Cq (Hs al! Iv (Iu bL!)) b5!) (Hs al! (Iu bL!) Iv))))))))) (Am (Fd m0! (Aj (Bo (i:=9) Pl.nd rfl bn! (Tc (NL:=[be_]) (NF:=[eE!]) (ix:=[2]) rfl c! o! m1! tc_ c! rfl (eL (Nw rfl T.Q8 a6!)) (λ_ _ _ _ _=>Cc (i:=0) (show([be_,eE!]:List Str).Nodup by decide+kernel) rfl a_) aM_ gz_ (λ_ _ _ _ _=>(Af (Bk Ay Cq (Hs eV_ Iv c7_) (Fw (Ah (Bk Ay Cq (Av Ap At eV_ Ae r_) E_) Au))))))) (Aj tR! (Am (Gu y_ a5! bz! (Tc (NL:=[i6!]) (NF:=[l4_]) (ix:=[9]) rfl c! o! m1! (Hg.cons (j:=9) Hg.nil) c! rfl (eL (Mb al!)) (λ_ _ _ _ _=>Cc (i:=0) (show([i6!,l4_]:List Str).Nodup by decide+kernel) rfl a_) aM_ gz_ (λ_ _ _ _ _=>(c7o (Ak gq! (Ak gq! (Ak (uR gq! (mH (Td i7! Kb gq! x! rfl))) Bd)))))))))) Dv)))))))))))))))
def fW(T:h!):Yz P w K mg base 1 "_law_ordered" aH! (Hu):=
 Es (h2:=[]) (k:=0) T.O5 Ni (λhr=>(Aj (a4n (Wt (i:=1) Ni.nd rfl a_ Au)) (Aj (Jn BQ rfl (eL iP_) (Cc (i:=2) Ni.nd rfl a_) (Go 2) (Aj (Bo (i:=3) Ni.nd rfl a_ (Af (a8z t1_))) (Aj (Pv BQ (Kl (iG (nN (Cw b5d b5f aE_ Ae v!) (cN (Cw (c6w (Ax.units0 hr)) c7f (Fw (Ah t3_ (Ah t3_ Au))) (Fw (Ah a6! (Ah a6! Au))) v!))))) (Am (Bo (i:=3) Ni.nd rfl a_ (Af t3!)))) (Am (a4n (b1q (i:=1) c! aE_ ak_)))))) (bH dW!))))
def a4h(T:h!):Yz P w K mg base 2 "_law_undone" aH! (Sg):=
 Es (h2:=[]) (k:=1) T.O6 Zf (λhr=>(Aj (Bo (i:=1) Zf.nd rfl a_ Kn) (Aj (Jn BQ rfl t7_ (Cc (i:=2) Zf.nd rfl a_) (Go 2) (Am (Fd (Jc b6_ Kb i9! (Af gr_) rfl) (Am (Gu y_ x! i9! (Af (Ld aD_ Du iQ_ Be v!)))) Dv))) dW!)))
def b5j(T:h!):Yz P w K mg base 4 "_law_play" aH! (jE):=
 Es (h2:=[]) (k:=3) T.P1 aW (λhr=>(Aj (Bo (i:=1) aW.nd rfl a_ (bM y_ (Ow aT! mL_ (Ow aT! Kn (Ow aT! Kn mD))))) (Aj (Bo (i:=2) aW.nd rfl a_ (Bm (a4h T) e! rfl da_)) (Aj (Jn BQ rfl t7_ (Cc (i:=3) aW.nd rfl a_) eZ_ (Am (Fd (zZ (Zr (Jc i7! Kb (Af (Av Ap At iX_ Ae r_)) (Af gr_) rfl) (Sx (eK (Lu (mI y_ Q_ (Af (Fw (Ah iX_ (Ah iX_ Au)))) iX! c8!)))))) (Am (Em (Bm (c7b T) e! rfl m7_))) Dv))) dW!))))
def lY(T:h!):Yz P w K mg base 1 "_law_shown_text" bZ_ (Nc):=
 Es (h2:=[]) (k:=0) T.P4 kU (λhr=>(Am (Dd (a8c (Tc (NL:=[i6!]) (NF:=[]) (ix:=[]) rfl c! o! (Dp (sc:=Ai Ph) rfl o!) Hg.nil c! rfl (Ji (Do P_ Cj a5! x! r_)) (λ_ _ _ _ _=>Cc (i:=0) (show([i6!]:List Str).Nodup by decide+kernel) rfl a_) aM_ (λ_ _ _ _ _=>fX (Kl (Kg a4!))) mN_)))))
def zO(T:h!):∀n:Nat,Yz P w K mg base (1+n+1) "_law_rows" f9_ (Pa n)
 |0=>Es (h2:=[]) (k:=1) T.P5 Lo (λhr=>b1c)
 |n+1=>have ih:=zO T n
 Es (h2:=[]) (k:=1+n+1) (q:=yX (Pa n)) T.P5 Lo (λhr=>(Aj (Bo (i:=3) Lo.nd rfl a_ (bL Bd)) (Aj (Jn BQ rfl (Ji (Bm (uI T) (hr.mono a!) rfl db!)) (Cc (i:=4) Lo.nd rfl a_) (Go 4) (Aj (Bo (i:=5) Lo.nd rfl a_ (fY Ay Qm (Af (Bk a7s a7w Be ak_)) (Bm (lY T) (hr.mono a!) rfl (Ak l! (Ak aF! Bd))))) (Aj (Bo (i:=6) Lo.nd rfl a_ (Do P_ Cj a5! aF! r_)) (Aj (Jn BQ rfl (eL (Nw rfl T.Q8 Ae)) (Cc (i:=7) Lo.nd rfl a_) (Go 7) (Am (Fd (Jc eU! c6z uk_ aw! v!) (Am (Bo (i:=5) Lo.nd rfl a_ (fY Ay Qm (fY Ay Qm (Af (Bk Ay Cq (Bk Ay Cq (Bk Ay Cq al! Be) (b1s a2d b8g rfl T.R4 fH (Ah cy! Au))) Be)) (rH a2d (Wy.toM b8g) rfl T.R4 fH (Ak uk_ Bd))) aT!))) Dv))) (Aj (Em (iY aw_ jc!)) (Am (Bo (i:=3) Lo.nd rfl a_ (c1q aw_ (Bm (g:=Pa n) (ps:=f9_) ih hr rfl (Ak l! (Ak aF! (Ak (Af (Bk Ay Cq ak_ Ae)) Bd)))))))))))) (Am (Dd aw_)))))
def b0u(T:h!):Ok P w K mg base 4 "_law_world" l1_ (Sf):=
 Iy (h2:=[]) (k:=3) T.O4 Lf (λhr=>(Br (Wt (i:=3) Lf.nd rfl a_ Au) (Br (Wt (i:=4) Lf.nd rfl a_ up!) (Br (Wt (i:=5) Lf.nd rfl a_ up!) (Br (a5l BQ rfl (Nw rfl T.Q8 ak_) Lf.nd rfl a_ (Br (Lc (i:=7) Lf.nd rfl a_ (Bh (Na T) e! rfl (Ah E_ (Ah uq! Au)) aD!)) (Br (Lc (i:=8) Lf.nd rfl a_ (Bk Kv Kw cy! Ae)) (Br (b7n (i:=4) c! b5! (Bk Ay Cq uq_ Ae)) (Br (b7n (i:=5) c! b5! (Bk Ay Cq (Bk Ay Cq ur! Ae) (Bk Kv Kw (Bk Xg Xh cy! Ae) Ae))) (Br (Lc (i:=9) Lf.nd rfl a_ (a8z (Bh (b5l T) e! rfl (Ah E_ (Ah (Bk Ay Cq uq! Ae) (Ah aE_ ne_))) (Aw (Aw aD!))))) (Bt (Xu (i:=3) c! (Fw (Ah (Av Ap At s9! b5! r_) (Ah uq_ (Ah ur! (Ah cy_ Au))))))))))))) (a1q (Bt (Da aE_))))))))
def Pt(T:h!):Hv P w K mg base 1 t.B4 "has" U_ (Ga t):=
 Ee (h2:=[]) (k:=0) T.T9 T.F9 kS (λhr=>(Am (Dd (Td b6_ Kb x! e1! rfl))))
def Hy(T:h!):Hv P w K mg base 1 t.B4 "has_item" U_ (Fv t):=
 Ee (h2:=[]) (k:=0) T.T9 T.G6 Xw (λhr=>(Am (Dd (Td b6_ Kb x! jf_ rfl))))
def Vt(T:h!):Hv P w K mg base 1 t.B4 "is_within" f4! (Ke t):=
 Ee (h2:=[]) (k:=0) T.T9 T.G7 Nh (λhr=>(Aj (Pv BQ (Kl (iG (nN (Cw Xe Xj V_ Gx v!) (cN tB_)))) (Am (Bo (i:=1) Nh.nd rfl a_ uC!))) (Am (Dd uD_))))
def Ya(T:h!):Hv P w K mg base 2 t.B4 "can_move" f4_ (Lb t):=
 Ee (h2:=[]) (k:=1) T.T9 T.G9 Xx (λhr=>(Am (Dd (uR nj! (uR uE_ (mH (c7p (Dr (Vt T) e! l! mZ!))))))))
def Yt(T:h!):Hv P w K mg base 1 t.B5 "listed" aR! (Oy t):=
 Ee (h2:=[]) (k:=0) T.U0 T.F7 Mz (λhr=>(Aj (a4n (Wt (i:=1) Mz.nd rfl a_ Au)) (Aj (Bo (i:=2) Mz.nd rfl a_ (Do P_ Cj dc! cx_ r_)) (Aj (Pv BQ (Kl (Cw Xe Xj ak_ Gx v!)) (Aj (a4n (Xu (i:=1) c! ak_)) (Am (Bo (i:=2) Mz.nd rfl a_ (Do P_ Cj dc! Q_ r_))))) (bH dW!)))))
def Sv(T:h!):Hv P w K mg base 2 t.B4 "children_of" U_ (Hf t):=
 Ee (h2:=[]) (k:=1) T.T9 T.J3 Sr (λhr=>(Am (Dd (a0e (Yt T) e! (Do P_ Cj e1! x! r_)))))
def bG(T:h!):Hv P w K mg base 1 t.B5 "holds" U_ (Nt t):=
 Ee (h2:=[]) (k:=0) T.U0 T.E7 tM (λhr=>(Am (Dd (uR uD_ (mH (Td b6_ Kb x! dc! rfl))))))
def lX(T:h!):Hv P w K mg base 2 t.B4 "cut" lS! (Rh t):=
 Ee (h2:=[]) (k:=1) T.T9 T.J1 Pk (λhr=>(Aj (Fd (eK (Lu nj!)) (Am uP) Dv) (Am (Jn BQ rfl (eL (b1r rfl T.Q8 a6! (Bk Ay Cq a6! aE_))) (Cc (i:=4) Pk.nd rfl a_) (Go 4) (Aj (Bo (i:=5) Pk.nd rfl a_ (Af (Bk Ay Cq (Hs ak_ Iv c7_) (Fw (Ah by_ Au))))) (Am (Fd (Lu (Dr (bG T) e! uN_ (Ak jc! Bd))) (Am (Gu y_ (Ch T.T9 T.U8 l!) jc! iX!)) Dv)))))))
def Xi(T:h!):b1x P w K mg base 1 "Row" t.B5 aR! (Nr t):=
 uJ (h2:=[]) (k:=0) T.E6 b0a (λhr=>(Aj (Lv T.U0 T.U1 l! uP_) (Am (Lv T.U0 T.U2 l! uP_))))
def oY(T:h!):b1x P w K mg base 3 "Outline" t.B4 aR! (Oz t):=
 uJ (h2:=[]) (k:=2) T.F8 oP (λhr=>(Aj (Lv T.T9 T.U3 l! (bM y_ (Ow aT! cx_ (Ow aT! cx_ mD)))) (Aj (Lv T.T9 T.U4 l! (bM y_ (Ow aT! ji_ (Ow aT! ji_ mD)))) (Aj (Lv T.T9 T.U5 l! Kn) (Aj (Lv T.T9 T.U6 l! Kn) (Aj (Lv T.T9 T.U7 l! Kn) (Am (Lv T.T9 T.U8 l! Kn))))))))
def Ls(T:h!):Hv P w K mg base 2 t.B5 "put_behind" lP! (Fu t):=
 Ee (h2:=[]) (k:=1) T.U0 T.E8 Ln (λhr=>(Aj (Bo (i:=3) Ln.nd rfl a_ (c4t (Lu (Dr (bG T) e! l! dX!)) Q_ cx_)) (Aj (Bo (i:=4) Ln.nd rfl a_ (Do P_ Cj dc! aw_ r_)) (Aj (Gu y_ dc! aw_ x!) (Aj (Gu y_ jj! x! aw_) (Aj (Gu y_ dc! x! aF!) (Am (Gu y_ jj! aF! x!))))))))
def iB(T:h!):Hv P w K mg base 1 t.B5 "take_out" U_ (Qc t):=
 Ee (h2:=[]) (k:=0) T.U0 T.E9 Oc (λhr=>(Aj (Bo (i:=2) Oc.nd rfl a_ (b5y y_ jj! x! c8!)) (Aj (Bo (i:=3) Oc.nd rfl a_ (b5y y_ dc! x! c8!)) (Aj (Gu y_ dc! Q_ aw_) (Am (Gu y_ jj! aw_ Q_))))))
def Uf(T:h!):Hv P w K mg base 3 t.B4 "move" cY! (Ly t):=
 Ee (h2:=[]) (k:=2) T.T9 T.H9 gZ (λhr=>(Aj (Fd (eK (Lu (Dr (Ya T) e! l! (Ak x! dX!)))) (Am uP) Dv) (Aj (Em (Dr (iB T) e! (Do P_ Cj e1! uC! r_) cz_)) (Aj (Em (Dr (Ls T) e! (Do P_ Cj e1! Q_ r_) m7_)) (Am (Gu y_ nh_ x! Q_))))))
def Uu(T:h!):Hv P w K mg base 1 t.B4 "numbers_of" aR_ (Gd t):=
 Ee (h2:=[]) (k:=0) T.T9 T.J6 Uo (λhr=>(Am (Dd (rH wY c3g rfl T.Q6 a9e (Ak u3! Bd)))))
def lW(T:h!):Hv P w K mg base 3 t.B4 "put" cY! (Rg t):=
 Ee (h2:=[]) (k:=2) T.T9 T.G8 Vf (λhr=>(Aj (Bo (i:=4) Vf.nd rfl a_ (c4t (Lu uE_) Q_ aT!)) (Aj (Gu y_ nh_ x! aF!) (Aj (Em (Dr (Ls T) e! (Do P_ Cj e1! aF! r_) m7_)) (Aj (Gu y_ e1! x! ji_) (Aj (Gu y_ jf_ x! ji_) (Am (Gu y_ u3_ x! (c1n i1_ (Af (Nx T.S0 rfl)))))))))))
def Ut(T:h!):Hv P w K mg base 2 t.B4 "set_number" f5_ (Jp t):=
 Ee (h2:=[]) (k:=1) T.T9 T.J2 Um (λhr=>(Am (Fd (Lu nj!) (Am (Gu y_ u3! Q_ aw_)) Dv)))
def Xz(T:h!):Hv P w K mg base 2 t.B4 "signs_of" aR_ (Hd t):=
 Ee (h2:=[]) (k:=1) T.T9 T.J4 Xv (λhr=>(Am (Dd (Tc (NL:=[as_]) (NF:=aR!) (ix:=[0]) rfl c! o! (Dp (sc:=Ai Ka) rfl o!) np_ c! rfl (Ji (a0e (Yt T) e! uN_)) u6_ aM_ (λ_ _ _ _ _=>fX (Jc i7! Kb l! (Ch T.T9 T.U8 x!) rfl)) mU!))))
def Zp(T:h!):Hv P w K mg base 3 t.B4 "text_of" aR_ (Jk t):=
 Ee (h2:=[]) (k:=2) T.T9 T.J5 Ze (λhr=>(Am (Dd (a8c (Tc (NL:=[as_]) (NF:=aR!) (ix:=[0]) rfl c! o! (Dp (sc:=Ai Ks) rfl o!) np_ c! rfl (Ji (Dr (Xz T) e! l! cz_)) u6_ aM_ gz_ (λ_ _ _ _ _=>(Do P_ Cj (Ch T.T9 T.U7 x!) l! r_)))))))
def eG(T:h!):Hv P w K mg base 3 t.B4 "write" lR! (Og t):=
 Ee (h2:=[]) (k:=2) T.T9 T.J0 Gz (λhr=>(Aj (Fd (eK (Lu (Dr (Hy T) e! l! dX!))) (Am uP) Dv) (Aj (Bo (i:=5) Gz.nd rfl a_ aw_) (Am (Jn BQ rfl (eL (b7v rfl T.Q0 by_)) (uC rfl (Nn (Cc (i:=6) Gz.nd rfl a_) (Nn (Cc (i:=7) Gz.nd rfl a_) iU))) (b7c 6 7) (Aj (Bo (i:=8) Gz.nd rfl a_ (Af (Bk Ay Cq V_ (Fw mS_)))) (Aj (Em (Dr (Ls T) e! (Do P_ Cj jf_ Q_ r_) (Ak (Af b5!) (Ak jc! Bd)))) (Aj (Gu y_ (Ch T.T9 T.U7 l!) (Af b5!) (Af cy!)) (Am (Bo (i:=5) Gz.nd rfl a_ (Af b5!)))))))))))
def rB(T:h!):Yz P w K mg base 1 "accept" au! (Wl t):=
 Es (h2:=[]) (k:=0) T.M6 a9z (λhr=>(Aj (Em (iY (rG y_ eO_ gx_ (bL Bd) c8!) x!)) sV!))
def Zo(T:h!):Yz P w K mg base 2 "is_next" au! (Mu t):=
 Es (h2:=[]) (k:=1) T.L5 a3j (λhr=>(Am (Dd (Td aD_ jk_ gx_ (fY Ay Qm u8! aw!) v!))))
def bF(T:h!):Yz P w K mg base 3 "accept_waiting" aS! (Ib t):=
 Es (h2:=[]) (k:=2) T.M7 Hk (λhr=>(Aj (Bo (i:=1) Hk.nd rfl a_ aw!) (Aj u9_ (Aj (Pv BQ (Kl (Cw b5d b5f (Dy Ff Jr rfl T.Q5 Ix eR_) Ae v!)) (Aj Rx (Aj (Em (Bm (rB T) e! rfl (Ak l! i2!))) (Aj (b5u (i:=1) Hk.nd rfl a_ aw!) (Am u9_))))) dW!))))
def eC(T:h!):Ok P w K mg base 1 "time_and_hand" bG_ (Gj):=
 Iy (h2:=[]) (k:=0) T.E4 dN (λhr=>(Bt (Da s7!)))
def Vs(T:h!):Ok P w K mg base 4 "in_order" aZ_ (Gm):=
 Iy (h2:=[]) (k:=3) T.E5 yJ (λhr=>(Bt (Da (b7w (eC T) (Ax.in1 (Ax.in1 e!)) rfl rfl T.R0 E_))))
def uH(T:h!):Yz P w K mg base 5 "all_taken" aS! (Jo t):=
 Es (h2:=[]) (k:=4) T.K8 Sq (λhr=>(Aj (a4n (Wt (i:=1) Sq.nd rfl a_ Au)) (Aj (Jn BQ rfl (c7n eO_) (Cc (i:=2) Sq.nd rfl a_) (Go 2) (Am (b1d (i:=1) c! (Do P_ Cj eO_ Q_ r_)))) (bH (Am (Dd (Af (Bh (Vs T) e! rfl eQ! aM!))))))))
def uG(T:h!):Ok P w K mg base 6 "are_parts" f2! (Nq t):=
 Iy (h2:=[]) (k:=5) T.E1 tL (λhr=>(Br (Nv (Cw qY rA gk_ t1_ v!) eM_ Hr) (Bt (Da (Dy iM_ wW rfl T.P8 wZ (Ah (Tp (NL:=ve!) (NF:=[]) (ix:=[]) rfl c! o! (Dp (sc:=Ai Sm) rfl o!) Hg.nil c! rfl (c8t rfl T.R7 c9i V_ E_) (λ_ _ _ _ _=>uC rfl (Nn (Cc (i:=0) ve_ rfl a_) (Nn (Cc (i:=1) ve_ rfl a_) iU))) (wF 0 1) eN_ (λ_ _ _ _ _=>(b7x (j:=0) (n:=1) (c2m T) e! eQ! aM!))) Au))))))
def a4g(T:h!):Ok P w K mg base 7 "is_deed" q! (Pf t):=
 Iy (h2:=[]) (k:=6) T.E2 a3m (λhr=>(Br (Nv (iG (nM sB! (aA (Cw aD_ Du gk_ Ae v!)))) eM_ Hr) (Br (Nv (iG (nM (Ma (Kg (Qg jB rfl T.Q4 rfl T.R4 Ej fH a4!))) (aA (b1p vh_ rfl a4!)))) eM_ Hr) (Br (Nv (Ma (Kg (Bh (uG T) e! rfl (Ah (Hs E_ c7_ Iv) (Ah (c2z vh_ rfl a4! r_) Au)) aD!))) eM_ Hr) (Bt (Da (sD (Ld qY rA a4! Be v!) (Oh (Ld Vo Vp (Bk Ay Cq mP! a4!) mE_ v!)))))))))
def iA(T:h!):Ok P w K mg base 8 "is_operation" q! (Eh t):=
 Iy (h2:=[]) (k:=7) T.E3 gY (λhr=>(Br mB_ (Bt (Da (Tq sE! (Tq sC_ (Oh (Bh (a4g T) e! rfl mC_ aM!))))))))
def bE(T:h!):Yz P w K mg base 2 "was_taken" au! (Lg t):=
 Es (h2:=[]) (k:=1) T.L0 tH (λhr=>(Am (Dd (Td Vo (Pb.m Vp) gx_ u8! v!))))
def eE(T:h!):Yz P w K mg base 3 "not_yet_taken" bI! (Gk t):=
 Es (h2:=[]) (k:=2) T.L7 Gy (λhr=>(Aj (Bo (i:=2) Gy.nd rfl a_ Kn) (Aj (Jn BQ rfl (Ji (fY Ay Qm gF! x!)) (Cc (i:=3) Gy.nd rfl a_) eZ_ (Aj (Bo (i:=4) Gy.nd rfl a_ nx_) (Aj (Fd (Lu (Bm (bE T) e! rfl (Ak l! iZ!))) (Am (Bo (i:=5) Gy.nd rfl a_ (Do P_ Cj (Do P_ Cj eO_ (Af ny!) r_) (Af (Bk Zm Zq ny! Ae)) r_))) (Am (Fd (Jc aD_ jk_ (Af ny!) (Ch T.T8 T.U9 l!) v!) gH! (Am (Bo (i:=5) Gy.nd rfl a_ (rG y_ Q_ aF! aw_ c8!)))))) (Am (Fd (Kl (Cw eU! eH al! aE_ v!)) gH! Dv))))) jt_)))
def uE(T:h!):Yz P w K mg base 2 "last_time" f7_ (Np t):=
 Es (h2:=[]) (k:=1) T.L6 tJ (λhr=>(Aj (Fd (Jc aD_ jk_ (Dr (Sw T) e! l! cz_) aw! v!) (Am (Dd aw!)) Dv) (Am (Dd (Do P_ Cj (Do P_ Cj (Do P_ Cj eO_ x! r_) (Af (c9a Ae)) r_) aw! r_)))))
def lV(T:h!):Yz P w K mg base 3 "check_times" lU! (Nb t):=
 Es (h2:=[]) (k:=2) T.L8 Lm (λhr=>(Aj (Bo (i:=2) Lm.nd rfl a_ Kn) (Am (Jn BQ rfl (Ji (bN (pW rfl) b8d rfl T.R0 sK cz_)) (Cc (i:=3) Lm.nd rfl a_) eZ_ (Aj (Bo (i:=4) Lm.nd rfl a_ (Do P_ Cj (Do P_ Cj x! aw_ r_) aw! r_)) (Aj (Fd (Jc Vo (Pb.m Vp) aF! (mI y_ Q_ gw_ (Bm (uE T) e! rfl (Ak l! (Ak gw_ Bd))) c8!) v!) gH! Dv) (Am (Gu y_ Q_ gw_ aF!))))))))
def eF(T:h!):Yz P w K mg base 9 "check_message" bI! (Ko t):=
 Es (h2:=[]) (k:=8) T.L9 dO (λhr=>(Aj (Fd (Kl (Ma (Kg (Dy iM_ wW rfl T.P8 wZ (Ah (Tp (NL:=q!) (NF:=[]) (ix:=[]) rfl c! o! (Dp (sc:=Ai Mp) rfl o!) Hg.nil c! rfl (Mb V_) (λ_ _ _ _ _=>Cc (i:=0) (show(q!:List Str).Nodup by decide+kernel) rfl a_) aM_ eN_ (λ_ _ _ _ _=>(Bh (iA T) e! rfl b3! aM!))) Au))))) gH! Dv) (Am (Em (Bm (lV T) e! rfl (Ak l! (Ak (Bm (eE T) e! rfl db!) Bd)))))))
def Pq(T:h!):Ok P w K mg base 1 "is_undo_or_redo" bG_ (Cd):=
 Iy (h2:=[]) (k:=0) T.J7 Zd (λhr=>(Bt (Da (sD vn! (Oh vn!)))))
def oW(T:h!):Yz P w K mg base 5 "last_words" aZ_ (Jw):=
 Es (h2:=[]) (k:=4) T.J8 Qw (λhr=>(Aj (Bo (i:=1) Qw.nd rfl a_ Kn) (Aj (Jn BQ rfl vo! (Cc (i:=2) Qw.nd rfl a_) (Go 2) (Am (Fd (Kl (Kg (Bh (Pq T) e! rfl eR_ aM!))) (Am (Gu y_ x! i9! i9!)) Dv))) dW!)))
def a4c(T:h!):Yz P w K mg base 4 "line_of" lW_ (Xq t):=
 Es (h2:=[]) (k:=3) T.N5 kQ (λhr=>(Aj (Xl (i:=3) (NL:=vq!) (NF:=[]) (ix:=[]) kQ.nd rfl a_ rfl c! o! (Dp (sc:=Ai Za) rfl o!) Hg.nil c! rfl (c7m rfl T.Q0 (Dr (Uu T) e! l! dX!)) (λ_ _ _ _ _=>uC rfl (Nn (Cc (i:=0) vq_ rfl a_) (Nn (Cc (i:=1) vq_ rfl a_) iU))) (wF 0 1) (λ_ _ _ _ _=>fX (Kl (Cw eU! eH V_ Ae v!))) (λ_ _ _ _ _=>(Af (c3a E_ V_)))) (Am (Dd (fY Ay Qm (fY Ay Qm (Af (Bk a7s a7w Be (Bk Zm Zq V_ Ae))) (Dr (Zp T) e! l! dX!)) (Af (a8y Be aE_)))))))
def b0s(T:h!):Yz P w K mg base 6 "undone" aZ_ (Sb):=
 Es (h2:=[]) (k:=5) T.J9 Rp (λhr=>(Aj (Bo (i:=1) Rp.nd rfl a_ (Bm (oW T) e! rfl da_)) (Aj (Bo (i:=2) Rp.nd rfl a_ Kn) (Aj (Jn BQ rfl (eL iP_) (Cc (i:=3) Rp.nd rfl a_) eZ_ (Aj (Bo (i:=4) Rp.nd rfl a_ nx_) (Am (Fd (zZ (Zr (Kl (Ma (Kg (Bh (Pq T) e! rfl mQ! aM!)))) (Sx (Jc aD_ jk_ (b5z y_ x! aF! c8!) aT! v!)))) (Am (Gu y_ Q_ aF! iX!)) Dv)))) jt_))))
def c1j(T:h!):Yz P w K mg base 4 "play" f6! (Zx t):=
 Es (h2:=[]) (k:=3) T.K0 b9y (λhr=>(Am (Fd b7! (Am (Em (Dr (lW T) e! l! (Ak x! (Ak bz! i2!))))) (Am (Fd b7! (Am (Em (Dr (Uf T) e! l! gy_))) (Am (Fd b7! (Am (Em (Dr (Uf T) e! l! tP_))) (Am (Fd b7! (Am (Em (Dr (eG T) e! l! (Ak x! gy_)))) (Am (Fd b7! (Am (Em (Dr (lX T) e! l! gy_))) (Am (Fd b7! (Am (Em (Dr (Ut T) e! l! gy_))) Dv)))))))))))))
def b0t(T:h!):Yz P w K mg base 7 "played" aZ_ (Qa t):=
 Es (h2:=[]) (k:=6) T.K4 Rq (λhr=>(Aj (Bo (i:=1) Rq.nd rfl a_ (Vx (oY T) e! rfl)) (Aj (Bo (i:=2) Rq.nd rfl a_ (Bm (b0s T) e! rfl da_)) (Aj (Jn BQ rfl vo! (Cc (i:=3) Rq.nd rfl a_) eZ_ (Aj (Bo (i:=4) Rq.nd rfl a_ nx_) (Am (Fd (Jc i7! Kb aF! Q_ rfl) (Am (Em (Bm (c1j T) e! rfl (Ak x! (Ak aF! (Ak gw_ Bd)))))) Dv)))) dW!))))
def Ys(T:h!):Yz P w K mg base 8 "outline_of" aS! (Iq t):=
 Es (h2:=[]) (k:=7) T.K9 oN (λhr=>(Aj (Fd (Jc a3z (Pb.m a4j) vA! cx_ v!) (Am (Lv T.T8 T.V3 l! (Bm (b0t T) e! rfl (Ak (Bm (uH T) e! rfl da_) Bd)))) Dv) (Am (Dd vA!))))
def hX(T:h!):Yz P w K mg base 9 "outline_with" lV! (Lx t):=
 Es (h2:=[]) (k:=8) T.N3 Ua (λhr=>(Aj (Bo (i:=2) Ua.nd rfl a_ vB!) (Aj (Fd (eK (Lu (Dr (Pt T) e! Q_ cz_))) gH! Dv) jt_)))
def b5h(T:h!):Yz P w K mg base 10 "pages" lV_ (jD t):=
 Es (h2:=[]) (k:=9) T.N4 Rr (λhr=>(Aj (Bo (i:=2) Rr.nd rfl a_ (Bm (hX T) e! rfl db!)) (Aj (a4n (Wt (i:=3) Rr.nd rfl a_ Au)) (Aj (Bo (i:=4) Rr.nd rfl a_ (bL (Ak (Af (Fw (Ah Ae eQ!))) Bd))) (Aj (Pv BQ (Jc b5d (Pb.m b5f) (bN Ff a5r rfl T.Q5 Ix (Ak aF! Bd)) aw! v!) (Aj (Bo (i:=5) Rr.nd rfl a_ (c1o aF!)) (Aj (a4n (Xu (i:=3) c! al!)) (Am (Jn BQ rfl (c7l rfl T.Q9 (Dr (Sv T) e! Q_ (Ak (Af vC!) Bd))) (Cc (i:=6) Rr.nd rfl a_) (Go 6) (Am (Em (iY aF! (Af (Fw (Ah (Bk Ay Cq vC! Ae) mS_))))))))))) (bH (Am (Dd aw_))))))))
def a4b(T:h!):Yz P w K mg base 4 "receive" au! (Sc t):=
 Es (h2:=[]) (k:=3) T.M9 kP (λhr=>(Aj (Fd (Lu (Bm (Zo T) e! rfl db!)) (Aj (Em (Bm (rB T) e! rfl db!)) (Am (Dd (fY Ay Qm aw! (Bm (bF T) e! rfl da_))))) Dv) (Aj (Bo (i:=2) kP.nd rfl a_ (c4s (Bm (bE T) e! rfl db!) (mH (Td b6_ Kb x! gF! rfl)))) (Aj (Fd (zZ (Zr (Kl (Ma (Kg ak_))) (Sx (Jc a7t (Pb.m a7v) (bN Ff a5r rfl T.Q5 Ix (Ak gF! Bd)) (Af (Nx T.S8 rfl)) v!)))) (Am (Em (iY gF! x!))) Dv) (Am (Dd aw!))))))
def b5g(T:h!):Yz P w K mg base 11 "shown" aS! (jC t):=
 Es (h2:=[]) (k:=10) T.N6 yF (λhr=>(Aj (Bo (i:=1) yF.nd rfl bn! vB!) (Am (Dd (Tc (NL:=[jP!,aK!]) (NF:=[bY_]) (ix:=[1]) rfl c! o! (Dp (sc:=Ai jT) rfl o!) iN_ c! rfl (Ji (b5x (Bm (b5h T) e! rfl (Ak l! (Ak aT! Bd))) c7_ Iv)) (λ_ _ _ _ _=>uC rfl (Nn (Cc (i:=0) vE_ rfl a_) (Nn (Cc (i:=1) vE_ rfl a_) iU))) (wF 0 1) gz_ (λ_ _ _ _ _=>(Bm (a4c T) e! rfl (Ak Q_ db!))))))))
def c1i(T:h!):Yz P w K mg base 10 "take" bI! (wG t):=
 Es (h2:=[]) (k:=9) T.N0 iP (λhr=>(Aj (Em (Bm (eF T) e! rfl db!)) (Aj (Bo (i:=2) iP.nd rfl a_ aw!) (Aj (Jn BQ rfl (eL (Mb V_)) (Cc (i:=3) iP.nd rfl a_) eZ_ (Am (b5u (i:=2) iP.nd rfl a_ (Bm (a4b T) e! rfl (Ak l! iZ!))))) jt_))))
end
nonrec def c4b(K:W.Frag):Sp:=λvs H Q E=>∀(P:Program) (w:World) (t:Ca),t.nd->spM P w K 1 (c4x t) vs H Q E
section
variable{P:Program}{w:World}{K:W.Frag}{mg:Str->Option Value}{h:Heap}
def c9o(gc:mg "law"=some e6_)(dl:c9w K mg "law" sT [bI_])(T:Txt P w K mg jC_)(nd:Ca.nd jC_):
  ∃fd:FuncData,(∀(s:Shared) (u:Value),BindsTo s fd js! [("_law_script",u)])/\∀base:Heap,K.In base->base.Ns mainGlobals mg->Km P w K mg base iL 23 fa fd [bI_] (c4b K):=by
 obtain⟨fd,B,Y⟩:=c1v (h2:=[]) (k:=22) (P:=P) (w:=w) (q:=c4i jC_) dl tI gc (λbase σ ae A outer s H E hr=>(Aj (Bo (i:=1) tI.nd rfl a_ (Af (Bh (b0u T) e! rfl (Ah E_ (Ah Ae (Ah (Bk Kv Kw (Bh (Na T) e! rfl (Ah E_ ne_) aD!) Ae) Au))) (Aw aD!))))
   (Aj (Bo (i:=2) tI.nd rfl a_ (c1p (a4i T) e! rfl i1_))
   (Aj (Em (Bm (c1i T) e! rfl mZ!))
   (Aj (Bo (i:=3) tI.nd rfl a_ (Bm (b5g T) e! rfl dX!))
   (Aj (Fd (Kl (iG (nM (Ma (Kg (Qg b6t rfl T.Q4 rfl T.Q6 Ej a9e aE_))) (aA (Ma (Kg (Dy iM_ wW rfl T.P8 wZ (Ah (Tp (NL:=[l5_]) (NF:=[]) (ix:=[]) rfl c! o! (Dp (sc:=Ai sT) rfl o!) Hg.nil c! rfl (Mb aE_) (λ_ _ _ _ _=>Cc (i:=0) (show([l5_]:List Str).Nodup by decide+kernel) rfl a_) aM_ eN_ (λ_ _ _ _ _=>sN!)) Au)))))))) mY! Dv)
   (Am (Dd (Td aD_ c7a aw_ (Bm (g:=Pa 20) (ps:=f9_) (zO T 20) e! rfl (Ak (Bm (b5j T) e! rfl cz_) (Ak aT! i1_))) v!)))))))))
 exact⟨fd,B,λbase i g=>(Y base i g).imp λvs H Q E z=>z P w _ nd⟩
def b1m{ad:Addr}{k3:Tok}{o0 o1 o2 o3 o4 o5 o6 o7:a6_}{n0 n1 n2 n3 n4 n5 n6 n7 ep:Nat}{s0 s1 s2 s3 s4 s5 s6 s7:b7_}(X:fq_)(G:fr!)
  (ga:W.nsIn K mainGlobals "PARTS"=some (some kg!))(gl:K.lookup ad=some {cls:=.type "dict",data:=.dict #[⟨PyData.keyHash w.params "put",.str "put" k0,.ref r0⟩,⟨PyData.keyHash w.params "move",.str "move" k1,.ref r1⟩,⟨PyData.keyHash w.params "drop",.str "drop" k2,.ref r2⟩,⟨PyData.keyHash w.params "write",.str "write" k3,.ref r3⟩,⟨PyData.keyHash w.params "cut",.str "cut" k4,.ref r4⟩,⟨PyData.keyHash w.params "set",.str "set" k5,.ref r5⟩,⟨PyData.keyHash w.params "undo",.str "undo" k6,.ref r6⟩,⟨PyData.keyHash w.params "redo",.str "redo" k7,.ref r7⟩] ep})(gs:oE!=false)
  (l0:K.lookup r0=some ⟨cM!,o0,.seq #[.ref B6,.ref B7] n0,s0⟩)
  (l1:K.lookup r1=some ⟨cM!,o1,.seq #[.ref B6,.ref B6,.ref B7] n1,s1⟩)
  (l2:K.lookup r2=some ⟨cM!,o2,.seq #[.ref B6] n2,s2⟩)
  (l3:K.lookup r3=some ⟨cM!,o3,.seq #[.ref B6,.ref B8,.ref B9] n3,s3⟩)
  (l4:K.lookup r4=some ⟨cM!,o4,.seq #[.ref B6,.ref C0,.ref C1] n4,s4⟩)
  (l5:K.lookup r5=some ⟨cM!,o5,.seq #[.ref B6,.ref C2,.ref C3] n5,s5⟩)
  (l6:K.lookup r6=some ⟨cM!,o6,.seq #[.ref C4] n6,s6⟩)
  (l7:K.lookup r7=some ⟨cM!,o7,.seq #[.ref C4] n7,s7⟩)
  :∀X:Cx,X.prog=P->X.w=w->X.K=K->X.mg=mg->a2r X "PARTS" (Pc jC_):=λvm e1 e2 e3 e4=>
 b7d (rows:=[("put",k0,r0),("move",k1,r1),("drop",k2,r2),("write",k3,r3),("cut",k4,r4),("set",k5,r5),("undo",k6,r6),("redo",k7,r7)]) (w:=w) e2 e3 e4 (Jv X G ga) gs gl (show(["put","move","drop","write","cut","set","undo","redo"]:List Str).Nodup by decide+kernel) ⟨rfl,Nj (fs:=[B6,B7]) l0 (by show 2<=1000;decide),rfl,Nj (fs:=[B6,B6,B7]) l1 jE_,rfl,Nj (fs:=[B6]) l2 nN!,rfl,Nj (fs:=[B6,B8,B9]) l3 jE_,rfl,Nj (fs:=[B6,C0,C1]) l4 jE_,rfl,Nj (fs:=[B6,C2,C3]) l5 jE_,rfl,Nj (fs:=[C4]) l6 nN!,rfl,Nj (fs:=[C4]) l7 nN!,trivial⟩
end
end K26
open PySem PySem.W PyProof.Rows
set_option maxRecDepth 100000 in
set_option maxHeartbeats 0 in
theorem PySem.Challenge.cw_manyhands_k26_lines_of_it_holds : PySem.Challenge.rw_manyhands_k26_lines_of_it.Holds := by
 w_on;o_law;k_head;(case hw=>w_witness2)
 k_fill
 refine L2.b2k (l:=PySem.Challenge.rw_manyhands_k26_lines_of_it) (n:=63) (k:=23) (x:="_law_script") (CX:=L2.iL) (sp:=K26.c4b) rfl (by decide) rfl ⟨rfl,by decide,by decide⟩ (λw h Y=>W.kIn_of Y) ?F (λK H a ns hl _ hS P w t nd=>DL.c1u hS (K26.b6f nd)) (λ_ _ _ _ z=>z)
 case F=>
  intro w mg fa h KX G hmg;refine' K26.c9o hmg ?dl ⟨?C8,?C9,?D1,?D2,?D3,?D4,?D5,?D6,?D7,?D8,?D9,?E1,?E2,?E3,?E4,?E5,?E6,?E7,?E8,?E9,?F7,?F8,?F9,?G6,?G7,?G8,?G9,?H9,?J0,?J1,?J2,?J3,?J4,?J5,?J6,?J7,?J8,?J9,?K0,?K4,?K6,?K7,?K8,?K9,?L0,?L5,?L6,?L7,?L8,?L9,?M6,?M7,?M9,?N0,?N3,?N4,?N5,?N6,?N7,?N8,?N9,?O0,?O1,?O2,?O3,?O4,?O5,?O6,?O7,?O8,?O9,?P0,?P1,?P3,?P4,?P5,?P6,?P7,?P8,?P9,?Q0,?Q3,?Q4,?Q5,?Q6,?Q7,?Q8,?Q9,?R0,?R4,?R6,?R7,?R8,?R9,?S0,?S7,?S8,?S9,?T0,?T1,?T2,?T3,?T4,?T5,?T6,?T7,?T8,?T9,?U0,?U1,?U2,?U3,?U4,?U5,?U6,?U7,?U8,?U9,?V0,?V2,?V3,?gp⟩ ?nd
  (case E6=>show"!!")
  (case F8=>show"!!")
  (case K6=>(dsimp only;refine' DL.b5v (DL.Jv KX G ?g) ?a ?i ?l ?c ?k ?mm ?kc ?b;(case g=>k_is);(case a=>k_is);(case i=>k_is);(case l=>k_is);(case c=>k_is);(case k=>k_is);(case mm=>k_is);(case kc=>k_is);(case b=>exact λ_ _ _ _ _ _=>DL.aH λ_ _=>rfl)))
  (case C8=>show"!#")
  (case C9=>show"!$")
  (case D1=>show"!#")
  (case D2=>show"!#")
  (case D3=>show"!#")
  (case D4=>show"!#")
  (case D5=>show"!#")
  (case D6=>show"!#")
  (case D7=>show"!#")
  (case D8=>show"!#")
  (case D9=>show"!#")
  (case E1=>show"!$")
  (case E2=>show"!#")
  (case E3=>show"!#")
  (case E4=>show"!#")
  (case E5=>show"!#")
  (case E7=>show"!%")
  (case E8=>show"!&")
  (case E9=>show"!%")
  (case F7=>(dsimp only;refine' DL.He ?a ?i ?l ?c ?k ?b;(case a=>k_is);(case i=>k_is);(case l=>k_is);(case c=>k_is);(case k=>k_is);(case b=>exact λ_ _ _ _ _ _=>DL.Yg λ_=>rfl)))
  (case F9=>show"!%")
  (case G6=>show"!%")
  (case G7=>show"!&")
  (case G8=>show"!'")
  (case G9=>show"!&")
  (case H9=>show"!'")
  (case J0=>(dsimp only;refine' DL.He ?a ?i ?l ?c ?k ?b;(case a=>k_is);(case i=>k_is);(case l=>k_is);(case c=>k_is);(case k=>k_is);(case b=>exact λ_ _ _ _ _ _=>DL.us5 λ_ _ _ _ _=>rfl)))
  (case J1=>show"!'")
  (case J2=>show"!'")
  (case J3=>show"!%")
  (case J4=>show"!%")
  (case J5=>show"!%")
  (case J6=>show"!%")
  (case J7=>show"!#")
  (case J8=>show"!#")
  (case J9=>show"!#")
  (case K0=>show"!(")
  (case K4=>show"!#")
  (case K7=>show"!%")
  (case K8=>show"!#")
  (case K9=>show"!#")
  (case L0=>show"!$")
  (case L5=>show"!$")
  (case L6=>show"!$")
  (case L7=>show"!$")
  (case L8=>show"!$")
  (case L9=>show"!$")
  (case M6=>show"!$")
  (case M7=>show"!#")
  (case M9=>show"!$")
  (case N0=>show"!$")
  (case N3=>show"!$")
  (case N4=>show"!$")
  (case N5=>show"!(")
  (case N6=>show"!#")
  (case N7=>show"!$")
  (case N8=>show"!$")
  (case N9=>show"!#")
  (case O0=>show"!#")
  (case O1=>show"!$")
  (case O2=>show"!$")
  (case O3=>show"!)")
  (case O4=>show"!(")
  (case O5=>show"!#")
  (case O6=>show"!#")
  (case O7=>show"!)")
  (case O8=>show"!(")
  (case O9=>show"!)")
  (case P0=>show"!$")
  (case P1=>show"!#")
  (case P3=>show"!$")
  (case P4=>show"!$")
  (case P5=>show"!(")
  (case P6=>show"!#")
  (case dl=>(refine' DL.c2v KX G ?a ?l ?c ?k ?b;(case a=>k_is);(case l=>k_is);(case c=>k_is);(case k=>k_is);(case b=>exact λ_ _ _ _ _ _=>DL.Yg λ_=>rfl)))
  (case P7=>show"!*")
  (case P8=>show"!*")
  (case P9=>show"!*")
  (case Q0=>show"!*")
  (case Q3=>show"!*")
  (case Q4=>show"!*")
  (case Q5=>show"!*")
  (case Q6=>show"!*")
  (case Q7=>show"!*")
  (case Q8=>show"!*")
  (case Q9=>show"!*")
  (case R0=>show"!*")
  (case R4=>show"!*")
  (case R6=>show"!*")
  (case R7=>show"!*")
  (case R8=>show"!+")
  (case R9=>show"!+")
  (case S0=>show"!+")
  (case S7=>show"!+")
  (case S8=>show"!+")
  (case S9=>show"!,")
  (case T0=>show"!,")
  (case T1=>show"!,")
  (case T2=>show"!,")
  (case T3=>show"!,")
  (case T4=>show"!,")
  (case T5=>show"!,")
  (case T6=>show"!,")
  (case T7=>show"!,")
  (case T8=>show"!-")
  (case T9=>show"!-")
  (case U0=>show"!-")
  (case U1=>show"!.")
  (case U2=>show"!.")
  (case U3=>show"!.")
  (case U4=>show"!.")
  (case U5=>show"!.")
  (case U6=>show"!.")
  (case U7=>show"!.")
  (case U8=>show"!.")
  (case U9=>show"!.")
  (case V0=>show"!.")
  (case V2=>show"!.")
  (case V3=>show"!.")
  (case gp=>(refine' K26.b1m KX G ?ga ?gl ?gs ?l0 ?l1 ?l2 ?l3 ?l4 ?l5 ?l6 ?l7;(case ga=>k_is);(case gl=>k_is);(case gs=>decide);(case l0=>k_is);(case l1=>k_is);(case l2=>k_is);(case l3=>k_is);(case l4=>k_is);(case l5=>k_is);(case l6=>k_is);(case l7=>k_is)))
  (case nd=>(unfold K26.Ca.nd;decide))
