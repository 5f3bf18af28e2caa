import PyProof.Rows.All
import Wide.All
import OpenK.AllK
import Wide.FinOn
import Lean
import PyProof.EqAt
import PyProof.EqKinds
import PyProof.TupleCall
import KE.KIntText
import PyProof.Rows.SortShell
import PyProof.Rows.CallKwBuiltin
import KE.KSortKey
import KE.KDictSum
import KE.KRevIter
import PyProof.ExcBaseAll.ValueError
import PyProof.ReprRoads
import PyProof.DictTruth
import PyProof.Rows.SeqRoads
import KE.KMinBuiltin
import KE.KDictOf
import PyProof.AttrMissHeap
import PyProof.EnumStmt
import PyProof.EnumMake
import PySem.Challenge.RW_manyhands_k22_own_numbers
set_option linter.all false
set_option genSizeOf false
set_option Elab.async false
set_option maxRecDepth 100000
set_option maxHeartbeats 4000000
def HM:=@PySem.wpAny_bind
def HN:=@Option.bind_eq_some_iff
def HP:=@PySem.wpAny_pure
def HS:=@List.mem_cons_of_mem
def HU:=@PySem.Heap.get?_push_of_some
def HV:=@List.mem_cons
def HX:=@List.mem_cons_self
def HY:=@List.size_toArray
def HZ:=@List.mem_append_right
def IA:=@Option.map_eq_some_iff
def IB:=@if_pos
def IE:=@List.map_cons
def IF:=@if_neg
def IG:=@decide_eq_false
def IH:=@List.length_cons
def II:=@List.mem_append
def IJ:=@List.getElem?_eq_some_iff
def IK:=@PySem.Heap.get?_push_size
def IL:=@List.getElem?_eq_getElem
def IM:=@List.mem_map_of_mem
def IN:=@Nat.le_refl
def IP:=@List.length_map
def IQ:=@List.nodup_cons
def IR:=@List.mem_singleton
def IS:=@PySem.Heap.lt_size
def IT:=@List.mem_append_left
def IU:=@List.mem_map
def IV:=@Bool.false_ne_true
def IW:=@Nat.lt_of_lt_of_le
def IY:=@decide_eq_true
def IZ:=@List.map_append
def JA:=@List.length_append
def JB:=@Bool.false_eq_true
def JC:=@decide_eq_true_eq
def JD:=@Bool.and_eq_true
def JE:=@Ne.symm
def JF:=@Nat.ne_of_lt
def JG:=@List.getElem?_set_ne
def JH:=@List.append_nil
def JI:=@PySem.Heap.get?_update_other
def JJ:=@List.not_mem_nil
def JK:=@Nat.zero_le
def JL:=@List.nodup_append
def JM:=@Nat.le_trans
def JN:=@List.getElem?_map
def JO:=@Array.getElem?_eq_getElem
def JP:=@PySem.PassesOwn.never
def JQ:=@List.getElem?_set_self
def JR:=@PySem.wpAny_call_entry
def JS:=@PySem.wpAny_holding
def JT:=@if_false
def JU:=@List.map_map
def JV:=@List.getElem?_append_right
def JW:=@PySem.wpAny_truthy_bool
def JX:=@Option.some.inj
def JY:=@List.lookup_cons
def JZ:=@PySem.wpAny_callSpecial?_slot
def KA:=@if_true
def KB:=@PySem.wpAny_field
def KC:=@of_decide_eq_true
def KD:=@List.filter_cons_of_pos
def KF:=@List.filter_cons_of_neg
def KG:=@Array.length_toList
def KH:=@PySem.sizeLine_eq
def KI:=@Int.emod_lt_of_pos
def KJ:=@List.getElem?_eq_none
def KL:=@List.append_assoc
def KM:=@Nat.lt_of_le_of_lt
def KN:=@beq_eq_false_iff_ne
def KO:=@PyProof.Rows.callWith_type1
def KP:=@List.nil_append
def KQ:=@List.filter_eq_self
def KR:=@PyProof.Rows.wpS_bind
def KS:=@PySem.wpAny_mono
def KU:=@Array.getElem?_eq_some_iff
def KW:=@List.pairwise_cons
def KY:=@PySem.wpAny_newObj_type
def KZ:=@List.length_zip
def LA:=@List.getElem?_append_left
def LB:=@Int.emod_nonneg
def LC:=@List.map_congr_left
def LD:=@PySem.F.slot_dict_keyiterator_next
def LF:=@PySem.Heap.get?_update_self
def LG:=@List.getElem_mem
def LH:=@or_false
def LJ:=@PySem.wpAny_setField_rec
def LK:=@PySem.F.plain_max_loop
def LL:=@PySem.Calls.spliced_cons
def LM:=@Nat.lt_irrefl
def LN:=@List.nodup_nil
def LO:=@Nat.ne_of_gt
def LP:=@List.mem_filter
def LQ:=@List.length_singleton
def LR:=@Bool.eq_iff_iff
def LS:=@PySem.wpAny_rule
def LU:=@PySem.Heap.SameBut.update
def LV:=@PySem.wpAny_seqItems
def LW:=@beq_self_eq_true
def LX:=@Nat.le_succ
def LY:=@List.cons_append
def LZ:=@List.all_eq_true
def MB:=@List.getElem?_replicate
def MC:=@Bool.not_true
def MD:=@PySem.wpAny_Call_Name_kw
def MF:=@PySem.Obj.data_mapFields
def MH:=@Nat.lt_or_ge
def MJ:=@PySem.mem_of_lookup
def ML:=@List.replicate_succ
def MM:=@List.length_set
def MN:=@List.length_nil
def MO:=@List.forIn_cons
def MQ:=@List.find?_cons
def MU:=@PyProof.Rows.wpS_pure
def MV:=@PySem.wpAny_dictEntries
def MX:=@Option.bind_some
def MY:=@PySem.wpAny_dictEpoch
def MZ:=@of_decide_eq_false
def NA:=@List.length_replicate
def NB:=@List.getElem?_toArray
def NC:=@List.any_cons
def ND:=@List.drop_eq_getElem_cons
def NE:=@Int.le_refl
def NG:=@List.take_succ_eq_append_getElem
def NH:=@List.mem_of_getElem?
def NI:=@PySem.Obj.isFreed_of_fields
def NJ:=@List.length_range
def NK:=@Int.toNat_natCast
def NM:=@PySem.Heap.size_push
def NN:=@List.map_nil
def NO:=@Bool.and_self
def NP:=@PySem.Calls.evalArgs_plain
def NQ:=@List.length_take
def NR:=@PySem.Calls.spliced_nil
def NS:=@List.mem_filterMap
def NT:=@PySem.Paired.length
def NU:=@PySem.wpAny_typeNameOfWhole_keyiter
def NV:=@Nat.le_of_lt
def NW:=@List.mem_iff_getElem?
def NX:=@List.foldl_cons
def NY:=@Array.getElem?_toList
def NZ:=@beq_iff_eq
def OA:=@Nat.lt_succ_of_lt
def OB:=@List.flatten_cons
def OC:=@List.filter_congr
def OD:=@List.all_cons
def OE:=@PySem.Heap.size_after_update
def OF:=@PySem.Calls.callWith_builtin
def OG:=@PySem.F.slot_NoneType_hash
def OH:=@List.getD_eq_getElem?_getD
def OI:=@PySem.wpAny_passesOwn
def OJ:=@PySem.wpAny_notOrdered_dict
def OK:=@PySem.wpAny_letGo
def OL:=@Nat.lt_succ_self
def OM:=@List.perm_middle
def ON:=@PySem.wpAny_attempt
def OO:=@List.filterMap_cons
def OP:=@Nat.le_of_eq
def OQ:=@PySem.F.slot_tuple_iterator_next
def OT:=@PySem.wpAny_setField
def OU:=@PySem.F.plainAttrs_list
def OV:=@PySem.F.plainAttrs_dict
def OX:=@PyProof.Rows.get?_update_seq
def OY:=@PySem.wpAny_typeNameOf_keyiter
def OZ:=@not_or
def PB:=@PyProof.Rows.slot_tuple_getitem
def PD:=@or_congr_right
def PF:=@List.mem_range
def PH:=@List.forIn_nil
def PJ:=@List.Perm.refl
def PK:=@PySem.plainId_quiet
def PL:=@PySem.F.slot_dict_get
def PM:=@List.length_filter_le
def PN:=@List.pairwise_append
def PP:=@List.mem_iff_getElem
def PQ:=@Option.map_some
def PR:=@PySem.F.slot_enumerate_next
def PU:=@PyProof.Rows.listUpdate_at
def PV:=@List.nodup_iff_pairwise_ne
def PX:=@PySem.F.slot_enumerate_getattribute
def PY:=@List.zip_cons_cons
def PZ:=@List.getElem_range
def QA:=@List.filter_filter
def QB:=@List.filter_append
def QC:=@PySem.wpAny_newList
def QD:=@List.pairwise_iff_getElem
def QE:=@List.getLast?_eq_none_iff
def QF:=@Classical.byContradiction
def QG:=@Bool.not_false
def QH:=@PySem.wpAny_specialOf
def QI:=@PySem.wpAny_execs_nil
def QJ:=@PySem.slot_dict_contains
def QK:=@PySem.F.args_tuple_add_2
def QL:=@Option.isSome_iff_exists
def QM:=@decide_true
def QN:=@decide_eq_false_iff_not
def QO:=@PySem.F.entry_tuple_add
def QP:=@List.pairwise_singleton
def QQ:=@List.length_eq_zero_iff
def QR:=@PySem.SeqAt.EqAt.int_int
def QS:=@List.zipIdx_cons
def QT:=@List.drop_length
def QU:=@PySem.F.slot_tuple_add
def QV:=@List.filter_eq_nil_iff
def QW:=@PySem.wpAny_pyIter_list
def QX:=@PySem.wpAny_Call_method
def QY:=@List.zipIdx_nil
def QZ:=@Bool.not_eq_eq_eq_not
def RA:=@true_and
def RB:=@PySem.wpAny_standAt
def RC:=@PySem.wpAny_forIn_list
def RD:=@PySem.F.args_dict_keyiterator_next_1
def RE:=@Bool.and_false
def RF:=@PyProof.Rows.wpS_forRange
def RG:=@PyProof.Rows.listItems_at
def RH:=@PySem.F.entry_dict_keyiterator_next
def RI:=@List.map_id
def RJ:=@PySem.wpAny_typeOf
def RK:=@PySem.wpAny_loadPart'
def RL:=@PySem.wpAny_isTrue_Compare1
def RM:=@PySem.wpAny_isOneOf_keyiter
def RN:=@PySem.codeAny_mono
def RO:=@PySem.codeAny_builtin
def RP:=@List.length_zipIdx
def RQ:=@PySem.F.slot_zip_next
def RS:=@PySem.call_meets
def RT:=@PySem.wpAny_updateSeq_pair
def RU:=@PySem.wpAny_updateDictKeys
def RW:=@bne_self_eq_false
def RX:=@List.pairwise_map
def RY:=@List.ext_getElem?
def RZ:=@PySem.wpAny_tryCatch
def SA:=@PySem.wpAny_newTuple
def SC:=@PySem.wpAny_loadPart
def SD:=@PySem.wpAny_fieldsOf
def SE:=@decide_false
def SF:=@Nat.zero_add
def SG:=@List.length_drop
def SH:=@List.filter_cons
def SI:=@PySem.F.slot_dict_setdefault
def SJ:=@PySem.wpAny_onRaise
def SK:=@PySem.strLen_append
def SL:=@PySem.W.kia_one
def SM:=@List.of_mem_zip
def SN:=@List.filter_map
def SO:=@List.cons.injEq
set_option hygiene false
section open Lean
def z'E:Nat->Syntax->String
|0,_=>""
|n+1,s=>match s with
 |.node _ k a=>a.foldl (λr x=>r++z'E n x) s!"n{a.size} {(toString k).replace "Lean.Parser." "~"}\n"
 |.atom _ v=>s!"a{v}\n"
 |.ident _ _ v _=>s!"i{v}\n"
 |_=>"m\n"
def z'D(f:SourceInfo):Nat->List String->Syntax×List String
|n+1,x::l=>let r:=(x.drop 1).toString;match x.front with
 |'n'=>let c:=(r.takeWhile Char.isDigit).toString;let (a,l):=c.toNat!.fold (λ_ _ (a,l)=>let (y,l):=z'D f n l;(a.push y,l)) (#[],l);(.node f ((r.drop (c.length+1)).toString.replace "~" "Lean.Parser.").toName a,l)
 |'a'=>(.atom f r,l)
 |'i'=>(.ident f r.toRawSubstring r.toName [],l)
 |_=>(.missing,l)
|_,l=>(.missing,l)
def z'K:List (String×String):=[("P","n3 ~Term.paren\nn2 ~Term.hygienicLParen\na(\nn1 hygieneInfo\ni[anonymous]"),("D","n1 ~Tactic.tacticSeq\nn1 ~Tactic.tacticSeq1Indented"),("E","n2 ~Term.dotIdent\na."),("A","n2 ~Term.app"),("B","n1 null"),("C","n0 null"),("F","n2 null"),("G","n3 null"),("H","n1 ~Tactic.rcasesPatMed"),("I","n1 ~Tactic.rcasesPat.one"),("J","n2 ~Tactic.rcasesPatLo"),("K","n1 ~Tactic.optConfig"),("L","n4 ~Term.basicFun"),("M","n1 ~Term.hole\na_"),("N","n2 ~Term.byTactic\naby")]
def z'Z(r:SourceInfo)(f:String):Syntax:=(z'D r 999 (((f.takeWhile (·≠'\r')).toString.splitOn "\n").flatMap λs=>match z'K.lookup s with|some x=>x.splitOn "\n"|_=>[s])).1
local macro_rules|`(z [$x,*])=>do let a:=x.getElems;let mut r:="";for i in [0:a.size/2] do {r:=s!"{r}\r{match a[2*i]!.raw.isStrLit? with|some s=>s|_=>a[2*i]!.raw.getId.toString}\r{z'E 999 a[2*i+1]!}"};return (Syntax.mkStrLit (z'K.foldl (λr p=>r.replace (p.2++"\n") (p.1++"\n")) r)).raw
def z't't:String:=z ["pc!",(by simp[By,Bc,sSeq,Ge,Cd,Cj,Ck,Ep,Dl,Co,Lz,Cr,fT,Eg,Aa,Fq,f2,Ji,Ie,Ks,Nl,Lh,Bw,Ds,f1,Ac,Ag,Fw,fC,Fi,Bm,An,Cu,De,Bo,Bz,Bi,Aj,Cs,Du,Au,Dr,Fd,Be,Aw,Av,Bs,Ap,Cf,Mw,Dh,HT.sIx,List.getElem?_cons_zero,List.getElem?_cons_succ]),"!8",(by split at e),"!#",(by refine' DL.aX KX G ?a ?l ?c ?k ?b;(case a=>k_is);(case l=>k_is);(case c=>k_is);(case k=>k_is);(case b=>exact λ_ _ _ _ _ _=>DL.mY λ_=>rfl)),"!$",(by refine' DL.aX KX G ?a ?l ?c ?k ?b;(case a=>k_is);(case l=>k_is);(case c=>k_is);(case k=>k_is);(case b=>exact λ_ _ _ _ _ _=>DL.rE λ_ _=>rfl)),"!*",(by refine' DL.cZ KX G ?a;(case a=>k_is)),"#1",(by constructor),"!2",(by obtain⟨ka,bp⟩:=cD ha),"!.",(by dsimp only;(show W.findIn _ _ _=_);k_is),"!1",(by intro x y dx dy d G H Q sub rx ry e k),"!,",(by dsimp only;refine' DL.dS KX G ?a;(case a=>k_is)),"#3",(by unfold Cs Du),"!6",(by rename_i h;cases e;subst h),"!>",(by obtain⟨t,rfl⟩:=rx),"!E",(by rename_i hl;cases e),"!F",(by intro Y s Z H Q I h),"!0",(by intro X hP hw hK hc i Y s Z H E I hf st hg;subst hP hw hK),"!|",(by by_cases hk:k=d),"!(",(by refine' DL.aX KX G ?a ?l ?c ?k ?b;(case a=>k_is);(case l=>k_is);(case c=>k_is);(case k=>k_is);(case b=>exact λ_ _ _ _ _ _=>DL.us3 λ_ _ _=>rfl)),"!/",(by refine iS E_ ?_;refine iS E_ ?_;refine iS E_ ?_),"!3",(by obtain⟨f0,f1,f2,f3,f4,f5⟩:=hf it b_),"!<",(by obtain⟨x,e1,e⟩:=HN.mp e),"!}",(by simp only[JB,JT]),"#2",(by by_cases hb:b=a),"!%",(by dsimp only;refine' DL.eG ?a ?i ?l ?c ?k ?b;(case a=>k_is);(case i=>k_is);(case l=>k_is);(case c=>k_is);(case k=>k_is);(case b=>exact λ_ _ _ _ _ _=>DL.rE λ_ _=>rfl)),"!)",(by refine' DL.aX KX G ?a ?l ?c ?k ?b;(case a=>k_is);(case l=>k_is);(case c=>k_is);(case k=>k_is);(case b=>exact λ_ _ _ _ _ _=>DL.us4 λ_ _ _ _=>rfl)),"!C",(by obtain⟨v,rfl,rv⟩:=fN r),"#'",(by refine anF ax! ?_),"!+",(by refine' DL.pJ KX G ?a;(case a=>k_is)),"!9",(by obtain⟨o',e1⟩:=I.base.there b o e hx),"!k",(by exact k _ G H aJ! Aq.bl),"!t",(by unfold fT;rw[this];rfl),"!v",(by by_cases c1:i∈W.its),"#,",(by funext b;unfold mup),"#4",(by rw[fy_];exact NE _),"!'",(by dsimp only;refine' DL.eG ?a ?i ?l ?c ?k ?b;(case a=>k_is);(case i=>k_is);(case l=>k_is);(case c=>k_is);(case k=>k_is);(case b=>exact λ_ _ _ _ _ _=>DL.us4 λ_ _ _ _=>rfl)),"!4",(by refine iS ax! ?_;refine iS ax! ?_),"!=",(by obtain⟨sl,e1⟩:=I.base.slot b o e n hb hx),"!G",(by obtain⟨ds,e1,e⟩:=HN.mp e;show"!8"),"!L",(by obtain⟨e,n,ne,nf,d⟩:=I.pin p hp),"!M",(by obtain⟨its,r,pl,hz⟩:=I.list hq),"!O",(by obtain⟨a,vs,rfl,qa,ra⟩:=bN rx),"!U",(by obtain⟨q0,h0,rfl⟩:=IU.mp hq),"!V",(by obtain⟨p,vs,rfl,q,rr⟩:=bN r),"!Y",(by cases aZ rx;cases aZ ry;cases e),"!`",(by intro vs ds d G H Q sub r e k),"!g",(by subst e;exact I1.fpOk v_ (I1.hok.fresh v_)),"!m",(by rename_i h;rw[JD,JD,JC]at h),"!s",(by subst hb;rw[bQ]at e;cases e),"#!",(by obtain⟨ep,ht⟩:=hA.tk),"#(",(by refine HM O_;dsimp only),"#)",(by obtain⟨a,rfl,q⟩:=hx),"!&",(by dsimp only;refine' DL.eG ?a ?i ?l ?c ?k ?b;(case a=>k_is);(case i=>k_is);(case l=>k_is);(case c=>k_is);(case k=>k_is);(case b=>exact λ_ _ _ _ _ _=>DL.us3 λ_ _ _=>rfl)),"!-",(by dsimp only;refine'⟨?pg,?hd,?po,?sa⟩;(case pg=>k_is);(case hd=>k_is);(case po=>k_is);(case sa=>k_is)),"!5",(by obtain⟨v1,t1,rfl,r1,rr⟩:=bF rr;obtain⟨v2,t2,rfl,r2,rr⟩:=bF rr;cases cG rr),"!@",(by obtain⟨oc,od,kV,bq,pm,an,ah,ct,dt,rfl,lk,bv⟩:=F.ex),"!K",(by unfold Al at h;obtain⟨u,r,e1,q,t⟩:=h;subst e1),"!P",(by unfold Aq at h ⊢;obtain⟨a,vs,e,q,r⟩:=h),"!Q",(by obtain⟨⟨o,z1,z2,z3⟩,z4⟩:=z;exact kw!),"!T",(by obtain⟨a',b',c',e',hm⟩:=w.sgs x hx q hq),"![",(by intro x y dx dy d M G H Q sub m rx ry e k),"!^",(by intro Y s Z H Q I ⟨G,ρ,M,R,sr,e',k⟩),"!e",(by cases xB I n r ru<;>cases xB I n' r' a9),"!j",(by have p:((D.non::cu!)).Perm (n::D.non::X!):=((List.Perm.cons _ OM)).trans (List.Perm.swap _ _ _)),"!n",(by obtain⟨_,vs,J,h2⟩:=m.cell a _ hM),"!u",(by obtain⟨its,r,pl,hz⟩:=I.tuple hq),"!x",(by rw[IF c];exact keep rfl rfl w.inv),"!y",(by obtain⟨o,e,c,d⟩:=st;exact ⟨o,e,λv z=>by rw[d]at z;cases z⟩),"!z",(by obtain⟨a,vs,rfl,qa,ra⟩:=bO rx),"!{",(by intro vs ds d M G H Q sub m r e k),"!~",(by obtain⟨sl,ju⟩:=so.2.2 b o eb),"#$",(by subst hb;rw[mup_same]at e;cases e),"#%",(by obtain⟨ag,fd,J,h2,h3,h4⟩:=F),"#*",(by simp only[JB,JT,JY,hx]at h ⊢),"#5",(by obtain⟨rfl,rfl|rfl⟩:=d l),"#6",(by obtain⟨od,af,hl⟩:=I.look),"#8",(by have c':=MZ c;rw[IF c']at st),"#9",(by have c':=KC c;rw[IB c']at st),"#:",(by exact hR M O _ _ st hL .refl),"#@",(by obtain⟨q,hq,e⟩:=IU.mp z),"#A",(by obtain⟨hp,g,d,tk,os⟩:=s),"!!",(by dsimp only;refine' DL.b7n (DL.dS KX G ?g) ?a ?i ?l ?c ?k ?mm ?kc ?b;(case g=>k_is);(case a=>k_is);(case i=>k_is);(case l=>k_is);(case c=>k_is);(case k=>k_is);(case mm=>k_is);(case kc=>k_is);(case b=>exact λ_ _ _ _ _ _=>DL.mY λ_=>rfl)),"!7",(by subst ea;simpa[c,Ah,Am,w2,wl,Ay,Bx,Fc,Ii,Aa,fC,f2,h.ob,a4w,lkP,Ce,hf,hp,vh,ju,hn,qz,Jv,l1,l2,l3,l4,mup_ne,mup_same,me,jc,h.ne,JE h.ne]using fin),"!:",(by obtain⟨ob,eo,ec,ed⟩:=id g1;obtain⟨ot,xc,_,nt,xg⟩:=g2;unfold Builtin.SmallTypes.nextOf;refine HM (JZ (name:=fb!) g1.typeIs OQ (JR OQ g1.typeIs F.entry_tuple_iterator_next ?_ (F.args_tuple_iterator_next_1 _)));show wpAny _ _ (field (.ref jt) 0>>=_) _ _ s),"!;",(by refine cX bR_ λv s1 ⟨x,H1,I1,r1,q1⟩=>?_;refine cX fT_ λu s2 ⟨y,H2,I2,r2,q2⟩=>?_;exact hf v u s2 x y H2 I2 r1 r2 q2),"!?",(by obtain⟨us,rv,p1,_⟩:=I.list qa;obtain⟨us',az,p2,_⟩:=I.list qb;have J:=aI rd;have h2:=aI re;have h3:=ep_),"!A",(by unfold Builtin.SmallTypes.ownedTupleIsFree;refine HM (KB gz rfl (x:=bX!) rfl O_);simp only[KA];refine HM fc!;refine HM (KB gz rfl (x:=.ref TO) rfl ?_)),"!B",(by rename_i d hd;exact hg x2.sub m2 bv! q2 hd λz G3 H3 x3 q3=>k d M2 z G3 H3 r2 ((b8_).trans (.ext x3) m2) (m2.ext x3) q3),"!D",(by rintro⟨⟨⟩,σ⟩ s' ⟨rfl,a1,a2,a3⟩;dsimp only;obtain⟨L',b1,b2,b3⟩:=rG ic hk nz a1 a3),"!H",(by intro Y s Z H x y v u Q I rx ry h;obtain⟨i,j,rfl,rfl,q⟩:=h;show"!>";obtain⟨t',rfl⟩:=ry),"!I",(by obtain⟨i,hi,q⟩:=mM hb;obtain⟨p,ds,vs,J,h2,h3,h4,h5⟩:=er.own_ i hi;rw[q]at h2;cases h2),"!J",(by show"!2";obtain⟨kb,kg⟩:=cD hb;obtain⟨kc,yt⟩:=tL b7;refine iS E_ ?_;refine ifT (bA.trans (congrArg some a0x)) ?_),"!N",(by obtain⟨cl,b8⟩:=b1k (X:=X) (scope:=scope) λp hp hf=>I.ok.has p.1 (gw p hp hf)),"!R",(by simp only[(show Builtin.Dict_items.ownsTuple "dict_keyiterator"=false by decide),JB,JT];show wpAny C! A.in1 (if(Value.ref d==ce_)=true then _ else _) _ _ s;rw[(IF (λz:(Value.ref d==Value.none)=true=>IV z))];refine HM (HP (HM (MV td tf ?_)));rw[T_]),"!S",(by exact a1k (s:=({s with heap:=J})) (fo:=none) a3 hn a1 λh2 b1 b2 b3 b4=>k h2 T h2! b1 (a2.skip b2 (by intro x hx;simp at hx;subst hx;exact .inr (UI a0))) b3),"!W",(by have hT:=ar.typeIs;obtain⟨o,ho,hc,hd⟩:=id ar;obtain⟨od,td,_,tf⟩:=id D),"!X",(by refine HM (KB eo ed (x:=.ref tt) rfl ?_);rw[(IF (show¬((Value.ref tt==Value.none)=true)from IV))];refine HM (KB eo ed (x:=.int n 0) rfl ?_);refine HM (LV xc xg ?_);simp only[NK,g3]),"!Z",(by have I1:Inv X Y Z H {s with heap:=h',toks:=tk}:=I.turned mc! f0 f1 f3 f4 f5),"!]",(by obtain⟨o,es,ep,ho,r⟩:=hm;refine ⟨o,es,ep,kp _ o ?_ ho,r⟩;simp only[HV,JJ,LH,OZ];exact ⟨JE fz.2.1,JE fO.2.1,JE f1.2.1,JE f2.2.1⟩),"!_",(by obtain⟨gi,H3,I3,n3⟩:=q3;obtain⟨m',hm,w3⟩:=hN gi H3 n3;exact ⟨m',hm,gi,H3,I3,w3⟩),"!a",(by obtain⟨i,hi⟩:=NW.mp hv;obtain⟨d,_,p⟩:=fW z hi;exact⟨_,_,p⟩),"!b",(by obtain⟨e,he,hv⟩:=hi.2 i acc[i] (by rw[JO J]);rw[he,NY,JO J,hv];rfl),"!c",(by have:X.env.scope.names.lookup x=some .free:=hk;rw[k]at this;cases this),"!d",(by have hf:=a4v x k;have hl:∀i∈plc es dg_,i<es.size:=λi hi=>b5y hi),"!f",(by obtain⟨hi,r1⟩:=r1;obtain⟨p,dx,vs,rfl,rfl,hH,hl⟩:=a4i m1 q1 hi),"!h",(by simp only[sliceBounds,HT.sIx,Option.getD_none,(show(1:Int)>0 by decide),KA];by_cases h:i<0),"!i",(by obtain⟨v,rfl,r1⟩:=fN r;obtain⟨p,ys,rfl,q,rr⟩:=zC sub m r1 e1),"!l",(by show"!<";obtain⟨q,e2,e⟩:=HN.mp e;obtain⟨XZ,e3,rfl⟩:=IA.mp e),"!o",(by obtain⟨_,_,_,_,o,_,_,e,ex,_⟩:=I.hok p _ hk;exact⟨o,e,ex⟩),"!p",(by show (wpAny _ _ (field ha_ 2>>=_) _ _ _);refine HM (KB gz rfl (x:=.bool false) rfl ?_);refine HM (KB gz rfl (x:=.ref TI) rfl ?_);refine HM (LV gI rfl ?_);refine HM ?_),"!q",(by show Xi X.prog X.w X.K ps.length g (.ref p::(us++[])) H2 Q E0;rw[JH];exact ⟨by rw[IH,<-aI q2];exact r2.1,G2,.fn p::ds,M2,R,x2.sub,m2,Al.cons Aq.fn q2,r2.2,λd M3 v G3 H3 r3 x3 m3 q3=>k d M3 v G3 H3 r3 pp! m3 q3⟩),"!r",(by cases cG rr;obtain⟨l,vs,rfl,sq,rx⟩:=bO rv;rw[jM rx e2]at sq),"!w",(by show"!2";refine iS E_ ?_;refine iS E_ ?_;refine ifT (bA.trans (congrArg some a0y)) ?_),"##",(by have rs:∀j∈rest,j<es.size:=λj hj=>h2 j (HS _ hj)),"#&",(by subst hj;rw[hi]at e1;cases e1;rw[JQ zl]at e2;cases e2),"#+",(by refine n!;refine fJ (d:=.non) rfl ?_;unfold Ah Wa Am),"#-",(by unfold pyNext;refine HM (ON (JZ (name:=fb!) hT LD (JR LD hT RH ?_ (RD _))));refine HM (HP (HM f7!))),"#.",(by rw[HY,HY,<-h3,<-h4,<-J,<-h2];by_cases hl:f_=ae!),"#/",(by obtain⟨its,rv,⟨o,J,h2,n,h3⟩,_⟩:=I.tuple j3_),"#0",(by have ne:∀{b u},H b=some u->b≠p:=λe=>cC e hp),"#7",(by have n1:=nd.1;have n2:=nd.2;rw[<-LY,II,OZ]at n1),"#;",(by cases dR ry;cases e;refine n!;rw[xD rx];show"!k"),"#<",(by simp only[Op.nm,D.tup.injEq,SO,D.int.injEq]at e),"#=",(by rw[pE k8_,pE k9!];exact a9o (mm p hp) (mm q be)),"#>",(by rename_i h1 ep hM;obtain⟨kk,e1,e2⟩:=HN.mp e),"#?",(by have hi:i=fa_:=Nat.le_antisymm st.1 hg;subst hi),"#B",(by cases e;refine ⟨G,ρ,_,er,?_,k⟩;show((Option.some ds)).bind _=_;simp[hl]),"#C",(by obtain⟨ad,h1,vs,jx,SX,xa,xb,hn,hs⟩:=hd.ex)]
def z'0:String:=z [a!,(by omega),b!,List D,c!,(by decide),d!,Inv X Y Z H s,e!,model X.prog X.w,g!,s.heap.objs.size,h!,List Op,i!,Txt P w K mg t,j!,List ap!,k!,List Nat,l!,wl q!,n!,⟨rfl,?_⟩,o!,List Str,p!,["thing"],q!,Aa 0,r!,List Int,u!,aQ _,v!,aC S!,w!,Aa 1,x!,Str->Option Value,y!,s1.heap.objs.size,z!,.fn p,A!,IB rfl,B!,.bl true,C!,model P w,D!,wl C_,E!,Ba G H,F!,.ref a,G!,fC F_,H!,.fn a,I!,Array Value,J!,Gl X x,K!,some o.v,L!,Bf 0,M!,(·.2),N!,Aa 4,O!,List α,P!,.str k,Q!,(by simp),R!,"hand",S!,aA 1,T!,aC aB,U!,DE X own a fa,V!,some bQ_,W!,.ref C,X!,u++v,Y!,.ref e,Z!,some x1,Aa!,λb z=>absurd rfl z,Ab!,∀h',Heap.ExtBut it s.heap h'->Q none {s with heap:=h'},Ac!,(match rs[k]? with|some q=>!decide (q.2=p)|none=>false),Ad!,.bl (!decide ((fv!).2=p)),Ae!,s0.heap.objs.size,Af!,(λi v=>∃c u,x.cps[i]?=some c/\v=.str at! u),Ag!,(∃old,IsEnum h e it i old),Ah!,D X.A.in1 hh,Ai!,(by rw[cond,IG z]),Aj!,Gl X "enumerate",Ak!,starEach [a] X.env=dy_::starEach [] X.env,Al!,X.mg "enumerate"=none,Am!,[V!,G_,cy!,b6!,none,none,none],An!,Nat.succ_ne_self _,Ao!,I1.hok.fresh pP!,Ap!,[V!,G_,cy!,b6!,hB_,ow!,none],Aq!,.inl ⟨rfl,λj hj=>by omega⟩,Ar!,IntsAre items.toList ns,As!,.lst ((d9!).drop a),At!,k3 kW! ft_ d8!,Au!,λq=>decide fw!,Av!,.Call (.Attribute bf_ "insert" ay) [ek,e] [] ai,Aw!,0<=k/\k<=1000/\f_*k.toNat<=1000,Ax!,.BinOp (.List es p2) .Mult b pos,Ay!,upd H1 p cr!,Az!,⟨G1,ρ,M1,_,(fr_).grow (.ext xj) pT_,r1.2,Ay_⟩,AA!,x1.trans (.ext xj) m1,AB!,Dd (knd "put"),AC!,Dd (knd "drop"),AD!,mirror xs i j ((j - i) / 2),AE!,Aa 2 ρ=some o8_,AF!,b=false->q2 ρ M R,AG!,getElem?_pos _ k cz,AH!,some (.inl (.inr "numbers")),AI!,(by rw[jP,IB ha]),AJ!,u.map λi=>ec!,AK!,l.any λd=>Eh d x,AL!,(λi h4 h5=>by rw[show i=x+1 - 1 by omega]),AM!,h m st b h3 h4 u,AN!,λi j h5 h6=>?_,AO!,(∀i,i<lo->rk r x_ i<=rk r x_ k),AP!,some (.lst mf),AQ!,wi.sg a ha q hq,AR!,some (.tup [kf_,a0,b,tx]),AS!,pendingOf σ,AT!,⟨#[s.cps.toList.getD k 0]⟩,AU!,λ_ _ z=>z,AV!,p.mem_iff.mpr hq,AW!,a∈W.its\/a=root,AX!,ys.toArray.filterMap id,AY!,Hc cG_ ao! e1,AZ!,aT (d:=p1!) rfl,A0!,Hc k3_ ao! e2,A1!,l.filter λx=>Kq x p,A2!,(_,Cw.dct ((hH!).map _) _),A3!,J.mem_iff.mp (LG cz),A4!,⟨by show _<=_;simp only;omega,same.its,same.txt⟩,A5!,Sg w x0 d nm,A6!,(c,seqObj "list" ku.toArray n),A7!,[V!,K!,some o.d,none,none,none,none,none,none,none],A8!,∀x,(kget wd x=none/\kget kb x=none)\/∃k:Str,kget wd x=some P!/\kget kb x=some fq!,A9!,∀H':Hp,H' c=none->Fx X Y H' c,Ba!,Inv X (Y++[k7!,A9_]) Z H s,Bb!,(by simpa using c'),Bc!,(by rw[zD!];exact g4),Bd!,List.map_fst_zip p9_,Be!,k3 d7_ ft_ d8!,Bf!,Lk s.heap p.1,Bg!,⟨Array.Perm.refl _,rfl,rfl,rfl⟩,Bh!,(by rw[hsz];exact nv),Bi!,Iv hK_ (Lk s.heap p.1.1)<Iv hK_ (Lk s.heap q.1.1),Bj!,s.heap.get? a=some (seqObj "list" us.toArray n),Bk!,PU ha rfl ?_ k6! bL!,Bl!,RG ha rfl ?_,Bm!,s.cps.toList.map λ_=>.bl true,Bn!,HU _ ((Bm_).trans q),Bo!,(by rw[KH];omega),Bp!,iV [(t.B4,a)] (one ⟨_,i9,qX J⟩) b_,Bq!,(s1.heap.push ce!).update s1.heap.objs.size (Obj.mapSeq (·++a1!)),Br!,(Bq!).push Bq_,Bs!,(by simpa using c),Bt!,KJ (by rw[KG,hi.1];omega),Bu!,Paired.mapP ok.1 λ_ _ z=>z.1,Bv!,λv d=>Hg h3 v (lc!).1 (lc!).2]
def z'00:String:=z [a_,Or.inl rfl,b_,(by simp),c_,(·.1),d_,hr.mono c!,e_,Ad->Option D,f_,ds.length,g_,List Value,h_,⟨rfl,rfl,rfl,f7_,rfl,f7_,f7_⟩,i_,xs.length,j_,(by decide+kernel),k_,List ei!,l_,Value->Shared->Prop,m_,List V,n_,aC B_,o_,model prog w,p_,Fl->Mh->Prop,q_,λ_ _=>rfl,r_,D->Mh->Prop,s_,(by omega),t_,wl w!,u_,Ak.units hr,v_,IN _,w_,fC a9!,x_,arrOf σ,y_,(x==lL_)=false,z_,arrOf st,A_,some cp_,B_,aA 0,C_,Aa 2,D_,Aa 3,E_,bA.trans (congrArg some j_),F_,.int 0,G_,some i,H_,aC aH!,I_,List Addr,J_,s2.heap.objs.size,K_,"self",L_,⟨_,rfl⟩,M_,k+1,N_,bK u_,O_,HP ?_,P_,List Env,Q_,.lst xs,R_,ps.length,S_,Aa 5,T_,IF b_,U_,(by decide),V_,.int i,W_,Ad->Option Bool,X_,some ai_,Y_,List DictEntry,Z_,some x0,Aa_,Obj.mapFields (·.setIfInBounds 1 pK_),Ab_,∀q∈rs,Sd q.1/\Sd q.2,Ac_,Bi [.lst d9!]=_,Ad_,(f1 Bi gq! bQ!).bind (λz=>Ji hy! z)=_,Ae_,((k+1:Nat):Int),Af_,[Z_,G_,cy!,b6!,hB_,hC_,y],Ag_,((List.range' k m)).map λj=>D.int pA_,Ah_,ifT (by rw[cond,IY z]) ?_,Ai_,[.int pN_,.str ⟨#[q.1]⟩],Aj_,.inr ⟨j,s_,h2,h3⟩,Ak_,(backTo pos og_).any c_=false,Al_,Da 1 [1] _ _ _ _,Am_,⟨by simp[big];omega,?_⟩,An_,!decide (q.1=i),Ao_,Aj (Bk q) F_,Ap_,λi h ⟨o,ho,_,hd⟩=>⟨o,ho,λv z=>by rw[hd]at z;cases z⟩,Aq_,(rs.take a++bH!::rs.drop a),Ar_,IntsAre jr.toList ms,As_,.lst ((d9!).take a++[Bk bH!]),At_,Hc pJ_ gG_ e,Au_,List.take_of_length_le b_,Av_,.Call (.Attribute bf_ "extend" ay) [e] [] ai,Aw_,.lst (List.replicate k.toNat ds).flatten,Ax_,a9y b6q (tZ ha.ok) hb.ok,Ay_,λy M2 v G2 H2 r2 x2 m2 q2=>?_,Az_,⟨p,n,vs,rfl,rfl,xt,s_,s_,by rw[<-aI q1];exact eY hl,oM!⟩,AA_,Ec vq_ (Cq 7) CV,AB_,Dd (knd "move"),AC_,Fp (Dd (knd "set")) Tk,AD_,As (Fp (Dd (knd "write")) Tk) Sf (As (Fp (Dd (knd "cut")) Tk) Wz Bp),AE_,Fp (Dd ft) fu,AF_,b=true->q1 ρ M R,AG_,fA (k:=some (.inl (.inr "texts"))) hw rfl,AH_,fA (k:=AH!) hw rfl,AI_,λi j h3 h4=>?_,AJ_,W.its.map λi=>ec!,AK_,(show x - 1<a0.size by omega),AL_,L.cell (wt,_) hA_,AM_,(av_).length<5000,AN_,[V!,Z_,some fh!,k1!,o4,o5,o6,o7,o8,o9],AO_,⟨rfl,lo,lo,rfl,g2,g4,g5⟩,AP_,aT (bS rfl rfl c6g),AQ_,l[j]?.map c_,AR_,[V!,Z_,AR!,k1!,y4,some k0!,hC_,y,none,none],AS_,(none,a0.size),AT_,[V!,Z_,k2_,b5_,y4,some pW!,some F_,none,none,none],AU_,(∀x∈xs,∀(R:β->Shared->Prop),(∀y,F x y->R y s)->wpAny o_ A (f x) R E s),AV_,D.tup bK!∉W.its,AW_,λv hv R hR=>?_,AX_,Bg cG_ ao! d7_,AY_,(Value.type "int"::r),AZ_,Bg k3_ ao! bO!,A0_,λb=>O b\/b=q,A1_,l.filter λx=>Kq x q,A2_,λp=>Iv p3! (Lk h p.1),A3_,⟨[a],[(Str.ofString "key",v)]⟩,A4_,⟨same.rows,same.its,jI_⟩,A5_,Fk X.prog X.w X.K X.mg X.base Pd k f fd ps wf!,A6_,[V!,K!,none,none,none,none,none,none,none,none],A7_,∀K:Bool->Mh->Prop,K b M->ft ρ M K,A8_,Fe x.d=none/\¬kget wd x.nm=some bC_,A9_,(c,seqObj "list" ku.toArray e),Ba_,ksk_tail a false e1 cd! st,Bb_,Obj.mapSeq λ_=>(#[]:Array Value),Bc_,IQ.mpr ⟨JJ,LN⟩,Bd_,Array.toList_inj.mp,Be_,λv hv=>?_,Bf_,λx y F Q hx hy hq=>?_,Bg_,(by rw[hsz];omega),Bh_,⟨a1,a2,a3⟩,Bi_,(by rw[b3,hd]),Bj_,⟨_,OX ha λ_=>#[]⟩,Bk_,seqEpoch_at t3 rfl ?_,Bl_,SA ?_ (by show aq_<=_;rw[KH];omega),Bm_,JI _ _ (λz=>hb (by rw[z];exact IR.mpr rfl)),Bn_,checkCount "sorted" 1 1 _,Bo_,⟨_,kj,rfl⟩,Bp_,x1.sub.seq sq,Bq_,seqObj "list" its.toArray 0,Br_,(by rw[(bV _).length_eq,KH];omega),Bs_,ItemsOf pL! acc ae!,Bt_,λq e=>Cn K G q.1 e.key,Bu_,(λb hb=>by rw[k7_];exact gg),Bv_,L'.map (·.1.2)]
def z'a:String:=z [aa!,Ca M w O W,ab!,.bl false,ac!,g!+1,ad!,D->Ad->Option Ad,ae!,es.length,af!,some z!,ag!,starEach aD_ X.env=dE_::starEach es X.env,ah!,ys.length,ai!,List eZ_,aj!,λ_=>True,ak!,Br t M yy a ta wa out S kl ca,al!,[a,b],am!,Ad->Option aI_,an!,A.units<cLine,ao!,.tup bK!,ap!,D×D,aq!,rs.length,ar!,[K_,a6_],as!,[R!,bU!],at!,⟨#[c]⟩,au!,λi hi=>(by cases hi),av!,some (.lst ops),aw!,ME X own a fa,ax!,kF mX j_,ay!,X.calm=true,az!,[bn!],aA!,aA 5,aB!,λx hx=>?_,aC!,l.length,aD!,EP X Y Z Q,aE!,⟨rfl,rfl⟩,aF!,(qZ!).any c_=false,aG!,dC 0,aH!,aA 2,aI!,aC aR,aJ!,Cc.refl sub,aK!,.fn o,aL!,.ref C0,aM!,"item",aN!,wl D_,aO!,wl G!,aP!,i∉own,aQ!,Addr->Prop,aR!,.int n,aS!,.str s,aT!,os.length,aU!,PE X a ta,aV!,[ev_],aW!,Option Int,aX!,aA 6,aY!,Aa 9,aZ!,(x,p),a0!,(λ_ _ e=>by cases e),a1!,its.toArray,a2!,some v,a3!,Bl v u,a4!,(by simp;omega),a5!,IB hk,a6!,IF hk,a7!,"_law_script",a8!,"_law_item",a9!,.int 1]
def z'aa:String:=z [aa_,X.N[i]?=some x,ab_,i+1,ac_,List D->Option D,ad_,.nx ρ,ae_,some d0_,af_,.ref f,ag_,aJ as_,ah_,f ρ,ai_,.fn o,aj_,.inl rfl,ak_,.int i,al_,Cq 3,am_,Option D,an_,X.A.units+64<cLine,ao_,some kl_,ap_,IB a!,aq_,us.length,ar_,[R!],as_,aJ (λ_ _ h=>aV h),au_,s.length,av_,W.txt a,aw_,os.map Op.v,ax_,h1.length,ay_,Hist S,az_,fC bo!,aA_,Aa 6,aB_,bD (gS (pL rfl j_)),aC_,aT rfl,aD_,(e::es),aE_,f2 Aj q! G!,aF_,bZ u_,aG_,Option Addr,aH_,aA 3,aI_,List D,aJ_,Ad->Option Fl,aK_,List b5!,aL_,r.length,aM_,fC bB!,aN_,wl N!,aO_,aC aH_,aP_,.rt d,aQ_,Bt t M o O W B,aR_,.int h,aS_,Ey ops,aT_,X.N.Nodup,aU_,I.tok _,aV_,λ_=>some true,aW_,aM aH aL aH! aB q_,aX_,Ab l! Af,aY_,D->D->Option D,aZ_,El t M ad V B,a0_,List MK,a1_,Lr P w H h,a2_,Vz X.env.scope x,a3_,I.ok.hd hc,a4_,vs.length,a5_,aftP V S 15 x i v,a6_,"name",a7_,"_law_k",a8_,Ac q! Ag,a9_,.Call (.Name x p) aD_ [] pos]
def z'b:String:=z [ba!,aM aH aL B_ aB q_,bb!,.lst ys,bc!,Ae st,bd!,λb h=>?_,be!,.ref ag,bf!,Km W,bg!,⟨trivial,?_⟩,bh!,some (.int most),bi!,Mh->D->D->Option D,bj!,mixKind P w,bk!,(env::outer),bl!,.bl b,bm!,g i j,bn!,"_law_ops",bo!,.int 3,bp!,Il false,bq!,f2 Aj C_ G!,br!,aC aW_,bs!,Cp st,bt!,B+20,bu!,ep+1,bv!,q1.mono x2.g,bw!,[e,it],bx!,k _ _ aj_ e,by!,List Stmt,bz!,some x,bA!,.ref a,bB!,.int 2,bC!,its.toArray.size,bD!,Cq 2,bE!,cH N_ bI n_ aI! q_,bF!,K w.params,bG!,w2 Ce l! nD!,bH!,(i,p),bI!,.type "bool",bJ!,oF a1 a2 a3 a4 a5 a6,bK!,[aR_,aR!],bL!,JK _,bM!,Df y=some k,bN!,ME X own b fb,bO!,.fn q,bP!,.nx ρ',bQ!,[Z_,G_,cy!,b6!,hB_,kP_,y],bR!,h.objs.size,bS!,.ref it,bT!,Gv X (compareOp op) r,bU!,"operation",bV!,[R!,aM!,"place"],bW!,aC dD,bX!,.none,bY!,aA 9,bZ!,Aa 8,b0!,aE v! aO,b1!,aE n_ aO,b2!,Mx X scope cl C gF_ ao bf fp,b3!,OR K own G H Z ρ,b4!,Az d=true,b5!,Str×D,b6!,some s,b7!,some oT!,b8!,[aR_,dW!],b9!,M a=some ho!]
def z'bb:String:=z [ba_,aA 4,bb_,aC ba_,bc_,List eS_,bd_,Or.inr rfl,be_,.type "tuple",bf_,.Name x cb,bg_,.int 0,bh_,Df d=some k,bi_,some bO!,bj_,fs.length,bk_,List Expr,bl_,.ref g!,bm_,[bU!],bn_,Ak k X.A,bo_,A.handled=none,bp_,f2 Aj C_ az_,bq_,⟨_,e⟩,br_,Array DictEntry,bs_,(by unfold big;omega),bt_,M p=some ho!,bu_,ME X own e f,bv_,MR X.prog X.w X.K M G H,bw_,.tup xs,bx_,cK_<64,by_,.str x,bz_,eE I q b_,bA_,[R!,mC!],bB_,Array st!,bC_,.str "undo",bD_,Ac C_ Ag,bE_,fX u_,bF_,X.pn++Y,bG_,ρ.set i cr_,bH_,.type "int",bI_,.type "str",bJ_,some x,bK_,.tup j4_,bL_,some (.int m0),bM_,Cn X.K G d u,bN_,[Z!,af!,K!],bO_,Iq P w K own M0 G0 F0 M G H Z ρ,bP_,u.length,bQ_,.fn w,bR_,ha Y s Z H _ I h,bS_,j+1,bT_,.dct (xs.zipIdx.map λq=>f4_) i_,bU_,[bA!],bV_,aD B_ aK,bW_,wl ct!,bX_,Ab t_ Af,bY_,ns.map V.int,bZ_,Aa 7,b0_,eW (bM aF_ cB aW_ aR u!),b1_,scope.names,b2_,some nJ!,b3_,(by intros;kernel_rfl),b4_,.int j,b5_,some ao!,b6_,scr ns,b7_,MR P w K M G H,b8_,x1.trans x2 m1,b9_,[.lst cE_]]
def z'c:String:=z [ca!,.dct [] 0,cb!,.int o.h,cc!,Array Keyed,cd!,.ref c,ce!,seqObj "list" #[] 0,cf!,PE X b tb,cg!,(x==q4_)=false,ch!,PE X e te,ci!,HQ t M yy a ta wa S kl ca W,cj!,y.length,ck!,"_law_one",cl!,.ref p,cm!,vs.toArray,cn!,wl S_,co!,aC aA!,cp!,Al K H ds vs,cq!,.lst ds,cr!,.lst vs,cs!,Aq K G d v,ct!,fC .non,cu!,(u++n::v),cv!,.Name x p2,cw!,("parents",.fn a1),cx!,.pre x b,cy!,some p,cz!,W.txt i,cA!,wl fo,cB!,some n,cC!,.type "tuple",cD!,.tup de_,cE!,ax_<big,cF!,acc.length,cG!,λd hd=>?_,cH!,lo+hi,cI!,Cn X.K G,cJ!,α->β->Prop,cK!,hF yy ta wa out,cL!,IS e,cM!,Unit->Shared->Prop,cN!,List V->Hp->Prop,cO!,X.mg x=none,cP!,Lp (Jb .str dx! []) dx!,cQ!,List D×is!,cR!,i.natAbs,cS!,ns.length,cT!,"other",cU!,[a7!,a7_],cV!,"_law_deed_here",cW!,[cV_,a8!,sX!,sX_],cX!,vs++dvs,cY!,Bc (fC ab!),cZ!,dU aB,c0!,items.size,c1!,aA 8,c2!,jA u_,c3!,Ay t.B5 "taken" l!,c4!,backToKw ai sU_,c5!,Ai N ps bc!,c6!,Do X scope NF ix,c7!,∀y∈b1_,y.2≠.cell,c8!,er.grow s1,c9!,s1.trans s2]
def z'cc:String:=z [ca_,l[j],cb_,((k:Nat):Int),cc_,SB kd a0 st,cd_,(s.heap.update a Bb_).push (seqObj "tuple" us.toArray 0),ce_,Value.none,cf_,Vu X.env.scope x,cg_,aT (d:=H!) rfl,ch_,he Y s Z H _ I h,ci_,λb hb=>?_,cj_,λ_=>rfl,ck_,"_law_at",cl_,⟨rfl,rfl,rfl,rfl⟩,cm_,aA 7,cn_,(by rw[q];simp),co_,us.toArray,cp_,.fn a,cq_,H p=none,cr_,some d,cs_,f ρ=some d,ct_,DE X own b fb,cu_,W.num x,cv_,⟨rfl,h⟩,cw_,.fol x b,cx_,B<=B',cy_,n+1,cz_,.int m,cA_,Option Value->Shared->Prop,cB_,HS _ hx,cC_,some item,cD_,mup_ne hb,cE_,ops.map Op.v,cF_,Mh->Prop,cG_,W.its.map λi=>(i,D.lst kT!),cH_,Sn W B,cI_,(by simpa using e),cJ_,upd H a o,cK_,S.length,cL_,λp hp=>?_,cM_,.inl rfl,cN_,.Name x pos,cO_,x≠"__name__",cP_,(∀b,M b≠none->b≠a->M' b=M b),cQ_,∀x,foldedSetIterable iter X.env x=pure x,cR_,x.length,cS_,some ak_,cT_,[K_,aM!,"parent","sibling"],cU_,"_law_number_here",cV_,"_law_world_here",cW_,ps.zip us,cX_,⟨us,[]⟩,cY_,Av aM_,cZ_,[ck!],c0_,aD aH! aK,c1_,Bj t_,c2_,wl i7_,c3_,λx=>!x.1,c4_,λx=>x.1.isSome,c5_,(by rfl),c6_,scope.kind=.function,c7_,.tup ds,c8_,DE X own e f,c9_,(s,p)]
def z'd:String:=z [da!,W.txt x,db!,.Name x p2,dc!,Eh d d',dd!,some b,de!,[none],df!,Bool->Shared->Prop,dg!,Hd ks k,dh!,Df x=some k,di!,kget h1 d,dj!,[Z!,af!,bi_,K!,kD_],dk!,λx hx=>(by simp[W0]at hx),dl!,upd H s.heap.objs.size zl_,dm!,.fn w,dn!,Tr prog w A s a0 kd r,do!,⟨rfl,k⟩,dp!,λc=>?_,dq!,Str×V,dr!,List β,ds!,(Str.ofString "ours",.int yy),dt!,X.s₀.heap.objs.size,du!,((dt_).length:Nat),dv!,ms.map Op.v,dw!,.Compare a [op] [b] pos,dx!,Ey S,dy!,IK _ rfl,dz!,f2 b hb,dA!,List V->Hp->VK->Prop,dB!,Zf x i,dC!,xs.isEmpty,dD!,List (Str×Value),dE!,(x::xs),dF!,"_law_ours",dG!,.fn t.A0,dH!,.str "cut",dI!,.type T,dJ!,.ref b,dK!,wl bZ!,dL!,Ac D_ Ag,dM!,aC eN_,dN!,⟨_,e,rfl⟩,dO!,Aa 10,dP!,Mx X scope cl G2.objs.size gF_ s2 H2 fp,dQ!,i∈own,dR!,v.headD .non,dS!,wo rows i,dT!,k _ G H aJ! Aq.bl,dU!,(by rw[z.1,z.2]),dV!,λq hq=>?_,dW!,.int m,dX!,sgn h n,dY!,LU ..,dZ!,K.In h,d0!,Jw P w s.heap k u,d1!,{s with toks:=tk},d2!,Bool->Mh->Prop,d3!,(pe_).Nodup,d4!,some o.v,d5!,MA X own aD_ fs,d6!,mup M p ca!,d7!,[Z!,X_,bi_,some x.v,some x.nm],d8!,.fn wn,d9!,rs.map Bk]
def z'dd:String:=z [da_,i∈W.its,db_,λb h=>.inl h,dc_,cs.length,dd_,Df a=some ka,de_,(.str k::r),df_,IB bs_,dg_,mkHash P w k,dh_,λz=>?_,di_,hO.noOb b3_,dj_,(a,b),dk_,ME X own o fo,dl_,W.rows.length,dm_,[V!,G_,bJ_,b6!],dn_,cF h2,do_,Int×Int,dp_,.int i t,dq_,a==sysModules,dr_,LM _,ds_,hs S h,dt_,hs S o.h,du_,Bool->Hp->Prop,dv_,behindInMarks op b=false,dw_,eval o X.env,dx_,Nat->Heap->Prop,dy_,(false,eval a X.env),dz_,rawInt T,dA_,cK_<63,dB_,.lst et!,dC_,.dK h1,dD_,["sign"],dE_,(false,eval e X.env),dF_,f1 Bi a8_,dG_,Ac w! Ag,dH_,bG T.T7 T.V4 n_,dI_,Ab D! Af,dJ_,Ay t.B6 "rows" l!,dK_,.ref g!,dL_,aC ba!,dM_,([]:List Keyword),dN_,Ab l! bX_,dO_,HS _ hy,dP_,(d::ds),dQ_,Ic X.K r g,dR_,k _ G H aJ! Aq.int,dS_,(λz=>nomatch z),dT_,λd hd=>?_,dU_,i∈W.its/\Ig W x/\¬Wn W.rows i x,dV_,Aq X.K H d v,dW_,Sum.inr y,dX_,.str s,dY_,f1 ρ=some a,dZ_,(by simp;omega),d0_,scr ns,d1_,l.map c_,d2_,A.units+1<cLine,d3_,kg_<64,d4_,some ht!,d5_,λq hq=>?_,d6_,.dct [] 0,d7_,.lst [],d8_,Me M w O W wt wn qa,d9_,dE d es ep]
def z'e:String:=z [ea!,[Z_,G_,cy!,b6!,hB_,hC_,kP_],eb!,Aa 0 ρ=some bQ_,ec!,(qa i,Cw.lst e7!),ed!,arrOf bj,ee!,B<3800,ef!,IR.mp z,eg!,List dq!,eh!,∀b∈frA bk!,∃o,n.get? b=some o,ei!,Addr×Obj,ej!,Z.length,ek!,Za X pn f,el!,eval e X.env,em!,.BoolOp .And (a::b::rest) pos,en!,.BoolOp .Or (a::b::rest) pos,eo!,.bl true,ep!,[v,ov,iv],eq!,⟨_,dy!,rfl,rfl⟩,er!,.int k,es!,binaryOp .Add,et!,S.map Op.v,eu!,Sem Bool,ev!,s.heap.push iI!,ew!,some fo!,ex!,Ua X.K C,ey!,I.tok _,ez!,"_law_hand_here",eA!,Ax dvs ds,eB!,Ex X.K fd ps ds,eC!,PA X aD_ t,eD!,.Call (.Attribute o m ay) aD_ [] pos,eE!,I.hok.fresh v_,eF!,JV gk!,eG!,Ay t.B7 "following" l!,eH!,iN T,eI!,f2 Aj C_ aM_,eJ!,eO B_,eK!,.str "put",eL!,JE hb,eM!,aE aO_ aO,eN!,.type "list",eO!,if(dM_).isEmpty then 0 else 1,eP!,dN 3,eQ!,.ref fa,eR!,aE n_ b0!,eS!,Ba H H',eT!,List uK!,eU!,us++ds,eV!,Av S_,eW!,(a,oe),eX!,Ba.refl G,eY!,fa ρ,eZ!,fs ρ,e0!,Jh W n aj,e1!,a∈W.its,e2!,("rows",.fn a2),e3!,.row x b,e4!,x∈W.its,e5!,mup_ne J,e6!,⟨1,?_⟩,e7!,W.num i,e8!,D×D×Bool->Prop,e9!,.tup jY!]
def z'ee:String:=z [ea_,ms.length,eb_,j - 1,ec_,(by rw[IP];unfold big;omega),ed_,(a,oa),ee_,Hx g,ef_,xs++ys,eg_,some (.int N),eh_,s.heap.FunFrames base bk!,ei_,X.A.handled,ej_,Z.set i a2!,ek_,Ax vs us,el_,.BoolOp .And (b::rest) pos,em_,.BoolOp .Or (b::rest) pos,en_,.UnaryOp .Not a pos,eo_,No i,ep_,rv.length,eq_,.int j,er_,Value->Value->Sem Value,es_,(show false=true from hs),et_,.lst et!,eu_,some af_,ev_,"operations",ew_,.ins C dx fs,ex_,S++[Tv S 15 x i v],ey_,"_law_base",ez_,Fk X.prog X.w X.K X.mg X.base CX k f fd ps sp,eA_,Lq CX X E,eB_,fC (.int 16),eC_,f2 Aj q! aM_,eD_,bC (bP fU),eE_,fC (.int 4),eF_,.builtin id,eG_,aD aH_ aK,eH_,aA 10,eI_,Ei q!,eJ_,Bj D!,eK_,.str at!,eL_,aG (bR ja!),eM_,⟨.bl _,H,I,rfl,?_⟩,eN_,aM aH aL S! aB q_,eO_,nf_=true,eP_,.bool true,eQ_,⟨t,rfl⟩,eR_,aG (bR v!),eS_,Str×Addr,eT_,aE H_ aO,eU_,bG T.T9 T.U5 n_,eV_,Bj (wl (fC ab!)),eW_,upd H p o,eX_,Kn own Z G H,eY_,(by simp[e]),eZ_,D×D×Bool,e0_,D×D×Bool,e1_,⟨G,ρ,_,er,e1,v7_⟩,e2_,Nz->Addr,e3_,SR K own G0 F0 G H Z ρ,e4_,V.ref p,e5_,some jR!,e6_,Df i=some ki,e7_,if _ then _ else _,e8_,Az d'=true,e9_,(by show A.units+1+Dm xs<cLine;omega)]
def z'f:String:=z [fa!,LX B,fb!,Str.ofString "__next__",fc!,LS ?_,fd!,⟨hp,g,d,tk,os⟩,fe!,.Tuple jn n1 tp,ff!,h.Ns mainGlobals mg,fg!,.tup [kf!,a,b],fh!,.tup [.str "cut",a,.tup jY!,dW!],fi!,IY rfl,fj!,(none,()),fk!,.inl gG!,fl!,some 1,fm!,h1.map c_,fn!,Hy h1,fo!,.int v,fp!,some d,fq!,.bl hq!,fr!,Df y,fs!,λh=>?_,ft!,.int o.tm,fu!,(i:Int)+1,fv!,rs[k],fw!,q.1=x,fx!,Keyed->Int,fy!,n<=a0.size,fz!,λ_=>true,fA!,List hH_,fB!,HZ _ (HZ _ b_),fC!,(by unfold Xk;omega),fD!,(t.A0,a),fE!,eH J,fF!,.str x t,fG!,((fE_).map M!).map kf2,fH!,tupleKind bj!,fI!,.ref x,fJ!,[a,b,c],fK!,aY (cC q hn),fL!,A.frames=some bk!,fM!,∀b,g!<=b->n.get? b=none,fN!,[ds!,qw_],fO!,Int->Addr,fP!,λz=>hb h6!,fQ!,eR aC_ hA.ob hF2,fR!,.int h,fS!,λb o e n hb hx=>?_,fT!,(xC==lL_)=false,fU!,X.pn++Y++[eW!],fV!,ms.map Op.nm,fW!,PT X a tA,fX!,PassesOwn e! X.A X.env X.xe,fY!,It->Hp->Prop,fZ!,hf b hb,f0!,2 ^ 62,f1!,(∀b∈fp,H' b=none),f2!,hp.objs.size,f3!,(some o.v::r),f4!,i != 0,f5!,List (κ×V),f6!,HR t M a ta wa S kl ca,f7!,HM ?_,f8!,["thing","limit"],f9!,[K_,a6_,aM!]]
def z'ff:String:=z [fa_,x.cps.size,fb_,f2 ρ=some b,fc_,[bg_,bg_,bg_,bg_],fd_,if Ig W a then a else Db,fe_,[z,TO,i1,i2],ff_,List Tq,fg_,(oS!).Nodup,fh_,.str "set",fi_,IG b_,fj_,Cy N,fk_,some (.lst kinds),fl_,bL rfl rfl,fm_,Hh P w K G h1 es,fn_,.int v,fo_,Xc X.prog X.w X.K r gm,fp_,h3.typeIs,fq_,Tw X.K H dx,fr_,st.grow x1 m1,fs_,mup M p (.dct (Bg h1 y v) (Hc h1 y ep)),ft_,.fn wt,fu_,.inr aj_,fv_,[V!,G_,cy!,b6!,hB_,hC_,y],fw_,[V!,bJ_,G_,y],fx_,wpS_get ?_,fy_,(show i=j by omega),fz_,p1 rfl,fA_,L'.length,fB_,l.map f,fC_,Cn K G,fD_,⟨_,i1,nM J⟩,fE_,(hN!).zip ds,fF_,a==b,fG_,h'.objs.size,fH_,.own a,fI_,List α->Prop,fJ_,λ_ q=>q,fK_,.frz o u,fL_,env.frame=some L,fM_,frA bk!,fN_,[ds!,qw_,(Str.ofString "waiting",.fn wa)],fO_,kl.map λh=>(D.int h,D.fn (ca h)),fP_,(by rw[hA.ob];simp),fQ_,aT (d:=aR_) rfl,fR_,some fR!,fS_,mup M q d7_,fT_,hb Y s1 Z H1 _ I1 q1,fU_,fr b hb,fV_,ms.map λo=>nO_,fW_,X.wish E,fX_,.int _,fY_,Pb W0 cP! W,fZ_,(by simpa using hb),f0_,((0:Nat):Int),f1_,((hs S yy).length:Nat),f2_,(by kernel_rfl),f3_,some lo_,f4_,(D.int pN_,q.1),f5_,.int n,f6_,K.In s.heap,f7_,(by decide+kernel),f8_,["parts","checks"],f9_,[K_,aM!,"parent"]]
def z'g:String:=z [ga!,[K_,aM!,"place","number"],gb!,[iL_,a6_,"deed"],gc!,[K_,cT!],gd!,[R!,aM!,"at","number"],ge!,backToKw pos sU_,gf!,PA X es t,gg!,bY cO eF rfl T.R4 dY bV_,gh!,Ak M_ X.A,gi!,envOfC qual scope s.heap.objs.size f cd,gj!,λ_ _ _ _ _=>a3d,gk!,(by simpa using hi),gl!,.int a t,gm!,Ay t.B6 "texts" l!,gn!,Am 1 m0_,go!,aD tv_ aK,gp!,bM aF_ cB bY! aR u!,gq!,Ac N! Ag,gr!,wl (fC B!),gs!,Am 4 (wl (Fd D_ Aw cY_)),gt!,Ab c2_ (Ab i8! (Ab (wl bp_) Af)),gu!,aC ja_,gv!,.inr rfl,gw!,wl w_,gx!,Ay t.B5 "waiting" l!,gy!,its.length,gz!,bG T.T7 T.V5 n_,gA!,eK T,gB!,Sc al.heap H,gC!,.int 9,gD!,NameKind.free,gE!,Cq 6,gF!,.int 15,gG!,.inr z,gH!,f1 Bi gq!,gI!,.ListComp d6 vb_ scope pos,gJ!,f2 Bb aE_ w!,gK!,(λv z=>by cases z),gL!,∀cl C ao bf fp,PG b2! tg g,gM!,Aq K H d v,gN!,ρ.length,gO!,Cc.refl er.sub,gP!,r1.mono s2.g,gQ!,Bg l d v,gR!,Gh l d,gS!,sub.free hp,gT!,Bg kp n a0,gU!,Gh kf n,gV!,Qt rows i p s aj,gW!,ad .par,gX!,Cc.laid x.sub hp,gY!,Ig W x,gZ!,starEach (e::[]) X.env=dE_::starEach [] X.env,g0!,Qo F0 G1,g1!,setT W i (cutT g cz!),g2!,Al X.K H ds vs,g3!,[g4!,g3_,eq_],g4!,.int x,g5!,Aq X.K H d' v',g6!,B<3900,g7!,.Name y py,g8!,.tup bK!,g9!,(by size_fits)]
def z'gg:String:=z [ga_,[K_,aM!],gb_,[K_,"ours"],gc_,[R!,cT!],gd_,[mG_,cU_],ge_,Ak k A,gf_,f2 Aj q! w_,gg_,.str "bin",gh_,X.mg x=some W!,gi_,Mf N vs,gj_,Hq t,gk_,aD S! aK,gl_,Hj t.B7 1 (Gj t) Af,gm_,Dd (Co (fT iV_) i1!),gn_,Ab aN! Af,go_,gV (n:=9) rfl,gp_,Tp xs lo hi,gq_,Cq 4,gr_,f2 Aj bp_ G!,gs_,.str at!,gt_,.str "write",gu_,Ye x,gv_,Ev t,gw_,aE br! (aE br! jd!),gx_,λ_ _ _ _ _=>a3v,gy_,wl ua!,gz_,λρ M R=>R true M,gA_,aG (bR H_),gB_,Ac aE_ (Ac gf_ Ag),gC_,W.keepIn K af_=true,gD_,Vi X r,gE_,b8.sub x c h,gF_,NL++NF,gG_,.str "rows",gH_,bG T.T8 T.U8 n_,gI_,G2.objs.size,gJ_,w2 bp! c2_ bG!,gK_,∀y∈b1_,y.2=.free->vn!,gL_,ez _ I2.lt,gM_,V.ref a,gN_,Dd (fT aY!),gO_,λ_ _ _ h=>h,gP_,s2.trans s3,gQ_,ft ρ,gR_,DT X own a ft,gS_,Bg kf a0 n,gT_,kput_len _ _ _,gU_,Gh kp n,gV_,λx gr hy=>?_,gW_,ad r,gX_,er.grow x,gY_,.dir b,gZ_,(λr M'=>match r with|.rt d=>R d M'|.nx _=>R .non M'),g0_,ds.map some++List.replicate (iT_ - f_) none,g1_,setT W i l,g2_,Al X.K H es ws,g3_,.int y,g4_,.tup g3!,g5_,Bl v' u',g6_,(s,c,true),g7_,s.cps.toList.zipIdx.map dX!,g8_,s.cps.toList.length,g9_,s.heap.IsTuple l1 xs]
def z'h:String:=z [ha!,s.heap.IsTuple l2 ys,hb!,IK _ rfl,hc!,λc hc=>?_,hd!,wo W.rows i,he!,(aL_:Int),hf!,.tup [oR_,a,b,c],hg!,.tup ye!,hh!,(show u=.none from hx),hi!,ks.Nodup,hj!,(if _<=big then _ else none)=_,hk!,fs ρ=some ds,hl!,Si P w K own G H Z ρ M,hm!,MA X own es fs,hn!,MT X own a ft,ho!,.dct h1 ep,hp!,cV h5,hq!,k=="undo",hr!,(aS_).map Op.v,hs!,∀o∈ops,DG o.d,ht!,.lst cE_,hu!,wl fa,hv!,(by cases h),hw!,(o::os),hx!,kget h1 y,hy!,.int (k:Nat),hz!,some (.lst zT_),hA!,k3 a b c,hB!,.tup al!,hC!,e≠it,hD!,a0.toList,hE!,x - 1,hF!,KQ.mpr q_,hG!,aT (d:=bg_) rfl,hH!,W.its++[D.tup bK!],hI!,lG o,hJ!,seqObj "list" us'.toArray n',hK!,(hI_).zip ds,hL!,[.ref l],hM!,es.map kl!,hN!,us.zip us,hO!,.int 15,hP!,List (List Key×V),hQ!,(show h.get? a=some _ from x),hR!,.ListComp d6 vb_ scope ai,hS!,[ae_,ao_,eg_,hz_,lk!,lk!,none,none,none,none],hT!,J.objs.size,hU!,kl.length,hV!,∀b,M b≠none->M' b=M b,hW!,(by rw[hA.wt];simp),hX!,s.heap.update T qA!,hY!,I.ok.bs b o e,hZ!,IS ho,h0!,b∈X.ex\/dt!<=b,h1!,Lr X.prog X.w H' h',h2!,.inr a0,h3!,I.base.keep b o e n hb hx,h4!,out b o e hx,h5!,Jz lA_ P w K mg base N qual scope f cd A outer s H E,h6!,(by simp[z]),h7!,λ_ _ _ _ n=>n,h8!,λ_ _ _ e=>e,h9!,some (.inl (.inl o.h))]
def z'hh:String:=z [ha_,.ref z,hb_,AL s.heap l1 l2,hc_,λc o e=>?_,hd_,.int k,he_,some F!,hf_,.tup [.str "drop",a],hg_,(show v=.none from hy),hh_,ks.length,hi_,Mb ks k,hj_,Oa s.heap a es ep,hk_,s.cps.toList.zipIdx.map kq_,hl_,f ρ M R,hm_,w2 gm fa fb,hn_,q2 ρ M R,ho_,qB I sub r hk,hp_,.int o.h,hq_,⟨_,_,rfl,j_,j_,rfl⟩,hr_,λx hx=>hd x cB_,hs_,Jb .str aS_ [],ht_,Mh->List D->Option D,hu_,Ea M1 d,hv_,mup M s.heap.objs.size ca!,hw_,(x::os),hx_,Gf own Z H1,hy_,LG _,hz_,some d7_,hA_,HS _ HX,hB_,some (.lst d9!),hC_,some (.int (a:Nat)),hD_,m - 1,hE_,W.its.length,hF_,λK hK=>hK,hG_,.lst [],hH_,Int×Int,hI_,ku.zip us,hJ_,.done (.ret .none),hK_,((hK!).map M!).map ee_,hL_,hs os h,hM_,us.toArray.zip co_,hN_,Ax xs us,hO_,seqObj "list" (hM!).toArray 0,hP_,o.ExactDict,hQ_,bL rfl fl_,hR_,∀b u,h.get? b=some u->h'.get? b=some u,hS_,.own x,hT_,H a=none,hU_,Sc h H,hV_,(by rw[ht];simp),hW_,(by rw[hA.cl h hh];simp),hX_,.fn (ca h),hY_,[H!,o.v],hZ_,aT (d:=.int 1) rfl,h0_,(∀x c,X.env.cells.lookup x=some c->c≠b),h1_,(λz=>by cases z),h2_,uo b o e hx,h3_,.int yy,h4_,frs X.stack,h5_,λb hb=>?_,h6_,λz=>hc h6!,h7_,λ_ _ e=>e,h8_,λm hm=>?_,h9_,IT _ z]
def z'i:String:=z [ia!,Value->Hp->Prop,ib!,TP X Y Z Q,ic!,(X.env::X.outer),id!,aT (d:=.fn p) rfl,ie!,∀dz,isTrue e X.env dz=(do let v <-dz;standAt e.pos;holding [v] lQ!),if!,its.toList,ig!,Hist (S++ms),ih!,ok.frames,ii!,ok.above,ij!,PS X st t,ik!,some e,il!,.Name xC p3,im!,[Z_,il_],in!,To X a pn,io!,v.natAbs<10 ^ 60,ip!,⟨fX_,H,aU_,L_,q⟩,iq!,full.length,ir!,aT (d:=x) rfl,is!,D->List D,it!,xG j_ j_,iu!,.builtin "max",iv!,X.mg "range"=none,iw!,(false,eval b X.env),ix!,HZ _ z,iy!,1+Sk S,iz!,Int->Int->V,iA!,2 ^ 64,iB!,λ_ _=>rfl,iC!,List.replicate 16 [D.int 0],iD!,Gv X (compareOp eh) r',iE!,.Compare a [op,eh] [b,c] pos,iF!,(xs.take i).zipIdx.map λq=>f4_,iG!,⟨rfl,by show 0<=40;decide⟩,iH!,r'.length,iI!,W.emptyDict,iJ!,Ko f v fs,iK!,Option Value,iL!,H a=some ew_,iM!,True.intro,iN!,"_law_found",iO!,ay.atName,iP!,"_law_many",iQ!,[K!,some gF!],iR!,fC mR_,iS!,Str->Option NameKind,iT!,IQ.mp nd,iU!,Qp 0 1,iV!,W.codeIn K ah qual=true,iW!,.ref t,iX!,⟨_,ho,rfl⟩,iY!,⟨_,jh,rfl⟩,iZ!,aM aH aL aW_ aB q_,i0!,.ref sl,i1!,fT tq_,i2!,HP ⟨_,rfl,HP h⟩,i3!,f2 Aj mU_ G!,i4!,f1 Dg a8_,i5!,λ_=>Bb,i6!,λ_ _ _ _ _=>n_,i7!,z.length,i8!,wl eI!,i9!,ah!<=sizeLine]
def z'ii:String:=z [ia_,lC rfl,ib_,To X a pn,ic_,[H!,.lst dv!],id_,PE X e t,ie_,TX X M0 G0 F0 own bc q1,if_,.inl h,ig_,Iu Og ms,ih_,⟨ok.mod,ok.kind,ok.glob,ok.blt,ii!,ok.inj,ok.has,ok.cab,ok.hd,ih!,ok.stk,ok.exf,ok.bs,ok.bsz,ok.noex,ok.exfs,ok.funs,ok.frf⟩,ii_,λj hj=>(by cases hj),ij_,(st::rest),ik_,.Return ik! pos,il_,some lP!,im_,St->Hp->Prop,in_,o.h=15,io_,.Name x pos',ip_,pyNext bS!,iq_,full.toArray,ir_,[A_,bJ_,some ak_],it_,λp o=>pF p o.nm o.d,iu_,Gl X "range",iv_,G.objs.size,iw_,[none,none],ix_,IT _ hp,iy_,I7.unpinned,iz_,AN r ta tb,iA_,Nr W x i,iB_,Int->Int,iC_,(none::r),iD_,lastMarks [op,eh] [b,c]=false,iE_,[some et_,f3_,fp!,some si_],iF_,(by simp only[HY];omega),iG_,if i<0 then -i else i,iH_,(λr M1=>match r with|.nx ba=>q ba M1 R|.rt d=>R aP_ M1),iI_,W.instObj C g!,iJ_,Qq V S 15 x i v,iK_,(show False from r),iL_,"outline",iM_,Tv S 15 x i v,iN_,"_law_most",iO_,getMethod ov m pl,iP_,A.under (.builtin "type.__call__" ⟨.ref C::us,kw⟩),iQ_,Cr (fT (Eg "tuple" q!)),iR_,f1 Gq a8_,iS_,((p,w)::P.zip vs),iT_,N.length,iU_,Oj (Kr t) 0 dG_,iV_,f2 Ap w! ct!,iW_,Ay t.B7 "preceding" l!,iX_,(by simpa using hv),iY_,wl (fC gg_),iZ_,((sIx n 0 lo:Nat):Int),i0_,Do.cons (j:=2) Do.nil,i1_,Builtin.Tuple.tupleExact _,i2_,V->Option Int->Option Int->Hp->VK->Prop,i3_,fC bC_,i4_,(i_:Int),i5_,.Subscript a b pos,i6_,Ah gs! (As (Fp (Dd (Cr vj!)) (wT (w2 i5! (Ob t_ aN_) (wl i3_)))) (Bx D! aN_ gr!) Bp),i7_,f2 Aj C_ w_,i8_,.str "move",i9_,fC m9_]
def z'j:String:=z [ja!,aC fU,jb!,(show false=true from fx),jc!,[.ref p],jd!,aE br! aO,je!,wl t0!,jf!,HM fin,jg!,l.most=some n,jh!,Ic.m cB,ji!,List.Pairwise.nil,jj!,λv _=>v=.bl true,jk!,Fn st,jl!,HS _ hp,jm!,bG T.T8 T.U9 n_,jn!,flt b hb,jo!,f2 Cu D_ w_,jp!,wl (fC gG_),jq!,Ja eI_,jr!,wl (fC nF!),js!,Am 5 (w2 Ce bG! c2_),jt!,∀a vs,Fy K H a vs->Fy K H' a vs,ju!,upd H p cr!,jv!,λb u e=>?_,jw!,∀j∈ix,j∉own,jx!,jX hN hv hd bv,jy!,(∀v G' H',Cc G H G' H'->Aq K G' d v->Q v H'),jz!,⟨B8,B9,C2,C3,C4,C5,C6,C7,C8,C9,D1,D2,zf,zg⟩,jA!,⟨G1,ρ,d,c8!,e,v8!⟩,jB!,aC aX!,jC!,DA X own aD_ fs,jD!,bT sub qa,jE!,v.reverse,jF!,mup_ne jc,jG!,mup_ne me,jH!,mup_ne og,jI!,.type "NoneType",jJ!,λa b hm=>?_,jK!,List Bool,jL!,bs.map Value.bool,jM!,bnd d ρ,jN!,(by kernel_rfl),jO!,ad jN_,jP!,∀q,Jp V q->bd q=ad q,jQ!,Al K G ds vs,jR!,.fn (ad .ob),jS!,IJ.mp J,jT!,(backTo ai og_).any c_=false,jU!,[.Subscript bf_ ix p2],jV!,Xp K ps.length g,jW!,(by simpa using h),jX!,us.toArray.size,jY!,[g4!,g3_,.int z],jZ!,pH rd re rv az (h us us' rv az),j0!,w.nm i hi,j1!,lZ ds es hl,j2!,[g4!,g3_,.int (z+(k:Nat))],j3!,setT W i j2_,j4!,.ref ad,j5!,au_<=16,j6!,⟨_,dy!,rfl⟩,j7!,IsZip s.heap z TI TO .none,j8!,IsPair s.heap TO p q,j9!,s.heap.IsTupleIter i2 l2 k2]
def z'jj:String:=z [ja_,aM aH aL aH_ aB q_,jb_,compareOp .In,jc_,.dT h1,jd_,wl tZ_,je_,⟨e,?_⟩,jf_,backTo ai ul_,jg_,ns.map .int,jh_,aG lR,ji_,⟨[u],[]⟩,jj_,[.non,.non],jk_,ForInStep.yield r,jl_,names.map λ(n,k)=>if nx! then(n,NameKind.cell)else(n,k),jm_,Ac G! (Ac G! (Ac G! Ag)),jn_,lT (mK T) d_ rfl,jo_,aC iZ!,jp_,bG T.T9 T.U6 n_,jq_,(J_,Tj us n),jr_,aC c1!,js_,ez _ (se p hp),jt_,.str i,ju_,λ_ h=>.inl h,jv_,Cc G H G' H',jw_,wl aA_,jx_,fb ρ,jy_,f2 g fa fb,jz_,⟨x,rfl,?_⟩,jA_,DA X own es fs,jB_,k.length,jC_,Ex X.K fd ps [],jD_,Cc.laid sub hp,jE_,Int->Int->D,jF_,(by show 3<=1000;decide),jG_,mup_ne ug,jH_,.builtin "isinstance",jI_,λx=>?_,jJ_,λx hx y hy=>?_,jK_,if x=n then[]else W.txt x,jL_,Cc.refl s2,jM_,[(Str.ofString "following",D.fn f),(Str.ofString "preceding",D.fn p)],jN_,.nm x,jO_,V.ls x b,jP_,λv H2 hy=>?_,jQ_,λj hj=>?_,jR_,some gM_,jS_,eval bf_ X.env,jT_,mup_ne h2,jU_,(hO b).mpr z,jV_,Fy X.K H a vs,jW_,Eh on_ oo!,jX_,∀(us us':g_),Ax vs us->Ax ws us'->∀(j:Nat) u u',us[j]?=some u->us'[j]?=some u'->SeqAt.EqAt A.in1 s u u' jW_,jY_,λj=>Eh on_ oo!,jZ_,az.length,j0_,mE ds es hl,j1_,JM gT_ a!,j2_,(U++g6_::v),j3_,bT sub q,j4_,[aR_,aR!,.int (k0:Nat)],j5_,wl f1,j6_,ZipApart z TI TO i1 i2 l1 l2,j7_,IsPair s.heap TI (.ref i1) (.ref i2),j8_,s.heap.IsTupleIter i1 l1 k1,j9_,(∀c ob,c≠z->c≠TO->c≠i1->c≠i2->s.heap.get? c=some ob->h'.get? c=some ob)]
def z'k:String:=z [ka!,HM (SJ ?_),kb!,h5.objs.size,kc!,(hO c).mpr z,kd!,cs.map λ_=>.bl true,ke!,xs.map D.str,kf!,.str "put",kg!,∀o∈ops,Ul o,kh!,kg_<=100,ki!,Ny P w h es ks,kj!,plc es dg_,kk!,cs.map λc=>(at!:Str),kl!,(·.key),km!,some jd,kn!,(by simpa using hl),ko!,b3p (pL rfl (LW _)),kp!,dE a es ep,kq!,(by rw[e];simp),kr!,.tup [fh_,a,.int p,fn_],ks!,.tup b8!,kt!,.refl st.or.sub,ku!,⟨G1,ρ,M1,R,kt_,r1,o7!⟩,kv!,k==k',kw!,⟨⟨o,q o z1,z2,z3⟩,z4⟩,kx!,upd H a (dE a a7 (Hc h1 d ep)),ky!,a1s (A:=A.in1) hu I m sub e r hk λo s' I' ho=>?_,kz!,[hp_,.int o.n,ky_,o.d],kA!,!Eh d d',kB!,(∀b,b≠p->M' b=M b),kC!,pQ I r2 r n2,kD!,wl fb,kE!,.ext x2,kF!,(p,h1,ep),kG!,List (Addr×Cw),kH!,⟨t1,t2,?_⟩,kI!,[(d,x)],kJ!,Gf own Z H,kK!,(by show 4<100;decide),kL!,hp x HX,kM!,(by rw[hp.length_eq];omega),kN!,Pu fo ρ M z!,kO!,⟨rfl,hg _ hK⟩,kP!,.bl c,kQ!,[Z_,pD!,K!,some pE!],kR!,Ed C m M d,kS!,its.map λi=>(i,g i),kT!,(cz!).map Cv,kU!,some cb_,kV!,Bk rs[k],kW!,.lst ((Aq_).map Bk),kX!,IB (by simp[big];omega),kY!,wl fx,kZ!,mirror_perm _ _ _ _,k0!,.lst pW_,k1!,some nm,k2!,setPending σ ((AS!).push k1_),k3!,Value.int a t,k4!,λz hz=>?_,k5!,List (Keyed×D),k6!,(by rw[HY,KH];omega),k7!,(a,seqObj "list" #[] e1),k8!,ku.toArray.zip co_,k9!,hk q be]
def z'kk:String:=z [ka_,(by rw[hd];simp),kb_,Km e0!,kc_,Kk xs ys,kd_,A.deeper (envOfC x bc! s.heap.objs.size ag ah),ke_,nL l c k,kf_,.str "write",kg_,ops.length,kh_,[.str "bin",.tup [.int 9,.int 9]],ki_,(au_:Int),kj_,Str.ofString "",kk_,HP (HP h),kl_,.int base,km_,Ny P w s.heap es.toArray ks,kn_,Ba G G',ko_,bD uk,kp_,XM M G H M' G' H',kq_,sgn h m,kr_,W.num a,ks_,λx hx q hq=>?_,kt_,st.grow x1 m1,ku_,MT X own c ft,kv_,f3 ρ=some c,kw_,Cn X.K G x v,kx_,dictGet a u>>=_,ky_,.int o.tm,kz_,upd H a (dE a a7 bu!),kA_,λk=>.bl hq!,kB_,λw hw=>oU I r1 rx n1 r2 r n2 (by have:=iC X.A;omega) w mZ!,kC_,(show its.toArray.any fq_=its.any fq_ by simp),kD_,some o.nm,kE_,(∀b,M b≠none->M' b=M b),kF_,fo ρ=some z!,kG_,ho.run I st e λd M1 v G1 H1 u s1 r1 x1 m1 q1 I1 rx=>?_,kH_,s.heap.push {cls:=.type "dict",data:=.dict #[]},kI_,IF (JE h.1),kJ_,s.root hb,kK_,⟨G',ρ,M',R,sr.grow x m,r,k1,k2⟩,kL_,hp.map _,kM_,[.Subscript o i p2],kN_,Pu f1 ρ M a,kO_,Pu f ρ M d,kP_,some hy!,kQ_,(u++o::v),kR_,Ci N ps.length q,kS_,D->Addr,kT_,HP (HM (SD ho hd ?_)),kU_,.int (aq!:Nat),kV_,q.2.1.map c_,kW_,(by simpa using oj),kX_,[some (Bk q),bJ_],kY_,Aa 2 ρ,kZ_,(av_).map Cv,k0_,((i:Nat):Int),k1_,(0,a0.size,0),k2_,some hg!,k3_,W.its.map λi=>(i,D.fn (qa i)),k4_,α->β,k5_,gC nd,k6_,PySem.Fin->Shared->Prop,k7_,IR.mp hb,k8_,hk p hp,k9_,Kk qc_ qd!]
def z'l:String:=z [la!,.builtin "sorted",lb!,seqObj "list" us.toArray 0,lc!,kf2 d,ld!,(Sum.inl a:Key),le!,(Sum.inr a:Key),lf!,⟨_,rfl,r⟩,lg!,κ×Value,lh!,List Key×Addr×Value,li!,fs.map c_,lj!,[.lst jg_],lk!,some (.lst [bg_,bg_,bg_]),ll!,(by rw[IZ];rfl),lm!,∃u,h'.get? e=some u,ln!,Str.ofString "outline",lo!,aY (hm b _ q λz=>z),lp!,D.int.inj z,lq!,KB he hd J ?_,lr!,X.env.scope.kind,ls!,.int qz_,lt!,X.N.length,lu!,hA.nob hM1,lv!,IW cL! I.ok.above,lw!,AllBare g',lx!,Xq n h e cls L ak,ly!,⟨o,ho⟩,lz!,I.base.free b o e n hx,lA!,cF (f:=fC .non) (d:=.non) rfl,lB!,λh hh=>(by cases hh),lC!,I.hok b u e,lD!,hs.2 b (JF lv!),lE!,⟨u',r',?_⟩,lF!,IR.mp y,lG!,hs.2 b (JF (IW cL! (I.ok.cab x c v4 hc))),lH!,hs.2 b (ne b o e),lI!,Inv X Y Z H' s',lJ!,SP X Y D,lK!,AD X xC en xn C0 L ie ix,lL!,swapsWith he (some (.Name xn xp)) ap.line X.env=pure false,lM!,⟨v,H,I,r,h⟩,lN!,[A_,Z!,af!,K!,kD_,y5],lO!,.bool b,lP!,.lst dv!,lQ!,truthy v,lR!,.BoolOp .Or [a] pos,lS!,.BoolOp op [a] pos,lT!,XR X.prog X.w X.K M0 G0 F0 E,lU!,h.ch y.h,lV!,⟨ac,H',I.unwish,q⟩,lW!,swapsWith e none pos.line X.env=pure false,lX!,[.Name en p2,il!],lY!,∀o∈ms,o.h≠yy,lZ!,HZ _ ho,l0!,toString i,l1!,(ea_:Nat),l2!,PG X tg g,l3!,Ad->Prop,l4!,.lst rw!,l5!,I.pin p hp,l6!,(∀b∈fp,Fx X Y H b),l7!,(toString "max"++toString ".loop":String),l8!,{s with heap:=h'},l9!,f1 ρ=some b]
def z'll:String:=z [la_,(s.heap.push ce!).update s.heap.objs.size (Obj.mapSeq (·++co_)),lb_,(by rw[he];rfl),lc_,ρ[i]?=some nJ_,ld_,kf2 q.2,le_,(nomatch e),lf_,(by simpa using J),lg_,sT F S λah A outer s H E hr=>hb hr,lh_,W.instObj C dx,li_,Eo P w H h a o,lj_,.lst aw_,lk_,b4h em ed nd z rfl rfl rfl rfl rfl rfl rfl hb,ll_,e=x\/H e=some hS_,lm_,rawInt L,ln_,upd H x o,lo_,.int yy,lp_,noteFrame Y! env,lq_,hA.mem h,lr_,hA.cl h hh,ls_,some (.inl if_),lt_,aT (uC o),lu_,Array GenState,lv_,aT (f:=Aa 0) rfl,lw_,I.freeC x c e,lx_,λb o e hx=>?_,ly_,λx c e=>?_,lz_,Kp ak (frA X.stack) s.heap h',lA_,Yz base P w,lB_,⟨#[],by rw[e];simp⟩,lC_,λh hh=>?_,lD_,JG (JE hj),lE_,if h=o.h then q else ca h,lF_,.inl hk,lG_,[A_,K!,none],lH_,hR M' bh bi d8,lI_,starEach es X.env,lJ_,.ins C dx [],lK_,eval a X.env,lL_,("__debug__":Str),lM_,Qh X.N.length ix v,lN_,(by simpa using hp),lO_,ac.set ie jR_,lP_,h Y s Z H _ I hw,lQ_,.BoolOp .And [a] pos,lR_,⟨bw,H1,vd af,q⟩,lS_,cX bR_ λv s1 ⟨x,H1,I1,r1,q1⟩=>?_,lT_,.IfExp c a b pos,lU_,PE X e (Sq X.prog X.w X.K M0 G0 F0 own f),lV_,(by simpa using hl),lW_,.Expr e pos,lX_,Hp->Prop,lY_,⟨ho,rfl⟩,lZ_,assignEach es X.env,l0_,Br t M yy a ta wa .non S kl ca,l1_,setItem ov iv v,l2_,kl.flatMap (hs S),l3_,Int->Int->Int,l4_,.obj t.B5 (hF yy ta wa ai_),l5_,Int×Tok,l6_,OS t M a o O W,l8_,f2 ρ=some c,l9_,λb hb=>(fZ!).1]
def z'm:String:=z [ma!,0<=i/\i<=3,mb!,⟨rfl,I.turned (t':=s.toks) (λb o hb e=>eb b o hb e) f0 f1 f3 f4 f5⟩,mc!,λb o hb e=>kk b o fZ_ e,md!,hi - lo,me!,[V_,eq_],mf!,cX me_ λus s1 ⟨vs,H1,I1,r1,q1⟩=>?_,mg!,s.heap.IsListIter it l i,mh!,V->Hp->VK->Prop,mi!,Int->Int->Prop,mj!,[h3_,mi_],mk!,.BinOp a op b pos,ml!,Int->Int->Bool,mm!,rI AK λi j=>.int (i / j),mn!,Tv S yy x i v,mo!,.type "enumerate",mp!,i ^ j.toNat,mq!,Rs λi j=>.bl mp_,mr!,decide (i<=j),ms!,Rs λi j=>.bl mr_,mt!,decide (j<=i),mu!,h1.isEmpty,mv!,⟨H,I,q⟩,mw!,h.keep k,mx!,W.plainGet_of hg,my!,{s with toks:=s.toks+1},mz!,Gd V x i,mA!,[K_,sI!,aM!,"behind","text"],mB!,[K_,aM!,"first","many"],mC!,"message",mD!,λ_=>none,mE!,[R!,"have"],mF!,[R!,"deed"],mG!,[cU_,iN_],mH!,"_law_other",mI!,bL rfl (bL (bS rfl (bS rfl rfl c7q) rfl) rfl),mJ!,[cV_,a8!,mH!],mK!,.tup [H!,dB_],mL!,[cV_,ck!],mM!,[a7!,ey_,dF!,iP!],mN!,[bn!,dF!,cV!],mO!,"_law_worth",mP!,.int 10,mQ!,upd qZ_ x lJ_,mR!,backTo pos s8!,mS!,Mk X.K C f,mT!,aD ba! aK,mU!,f1 Bi dG_,mV!,aC (nO aK),mW!,bootBuiltins x=some eF_,mX!,.int c u,mY!,λ_ _ _ _ _=>bH (i:=0) (show(cZ_:List Str).Nodup by decide+kernel) rfl a_,mZ!,(by simpa using hw),m0!,Ay t.B6 "parents" l!,m1!,(i:Int)+(m:Int)*1,m2!,Ay t.B6 "numbers" l!,m3!,(items.toList.drop (sIx items.size 0 lo)).take tv!,m4!,Ac aA_ Ag,m5!,.Slice lo hi none p2,m6!,HT.sIx xs.length xs.length hi - HT.sIx xs.length 0 lo,m7!,.str "redo",m8!,Do.cons (j:=1) Do.nil,m9!,.str "drop"]
def z'mm:String:=z [ma_,.bl (decide ma!),mb_,[H!,x,V_],mc_,I1.kept (t':=s1.toks) λb o e=>HU _ e,md_,s.heap.push {cls:=.type "range",data:=.fields #[.int lo t,.int hi u,.int 1 v]},me_,ha pos Y s Z H _ I h,mf_,PI X tg iter wi,mg_,s.heap.IsList l items,mh_,⟨h₁,g,d,tk,os⟩,mi_,.int (1+f1_),mj_,Gv X (binaryOp op) r,mk_,f dp_ (.int j u),ml_,rI Xh λi j=>.int (i*j),mm_,⟨_,h⟩,mn_,rI (λ_ j=>0<j) λi j=>.int (i%j),mo_,rI AJ λi j=>.int mp!,mp_,decide (i<j),mq_,compareOp .LtE,mr_,decide (j<i),ms_,Rs λi j=>.bl mt!,mt_,ho Y s2 Z H2 x y v u _ I2 r1 r2 q2,mu_,its.toArray.isEmpty,mv_,LP.mp ho,mw_,Um s.heap x dx C mA,mx_,W.isFn K af_=true,my_,show Ko f v ((k,x)::r)=(if k=f then(k,v)::r else(k,x)::Ko f v r)from rfl,mz_,[K_,a6_,cT!],mA_,∀o∈S,o.tm<=B,mB_,Ir X eF_ r,mC_,[R!,"fresh"],mD_,"numbers",mE_,[R!,aM!],mF_,"_law_letters",mG_,"_law_rows",mH_,[a7!,ey_,bn!,iN_],mI_,[a7!,ey_,iP!],mJ_,"_law_name",mK_,"_law_gone",mL_,(s0_).map Op.v,mM_,[ez!,a8!,ck_,mO!],mN_,[ez!,a8!,ck_],mO_,.List es pos,mP_,Qs P w K mg base A outer s H,mQ_,iB I hg hm ?_ a8,mR_,.str "root",mS_,gL (vK (yF s8_ (qY (bM xH xJ gg! aB u!)))) eD_ dO,mT_,gP T.S4 rfl,mU_,f2 Aj q! az_,mV_,Jz CX P w K mg base N qual scope f ah A outer s H E,mW_,bootBuiltins x=some dI!,mX_,ws.length,mY_,aM aH aL ba! aB q_,mZ_,v+(n:Int),m0_,w2 Ce m0! t_,m1_,Ab t_ gn_,m2_,Ab aO! Af,m3_,Bd t.B6 "has_item" 2 (Bh t) l! bX_,m4_,Am 8 (wl (f2 An w! (Au m4!))),m5_,HT.sIx xs.length 0 lo,m6_,λb ob q=>HU _ q,m7_,Am 2 Gm,m8_,V->List V->Hp->VK->Prop,m9_,.str "set"]
def z'n:String:=z [na!,sliceBounds lo hi none n,nb!,f2 Aj D_ az_,nc!,Zg (Ni 1 Ag),nd!,w2 Ce c3! D!,ne!,aE T! aO,nf!,wF (lP b0_ (iT (dQ bE_ eU br! bE! rfl))),ng!,Ab l! gn_,nh!,λx1 x2=>x1++x2,ni!,acc++its,nj!,Fv 1 [] (Ei w!) L! aV_ ud_,nk!,Ja (Ei w!),nl!,aM aH aL ba_ aB q_,nm!,(Str->Option Value)->Heap->Prop,nn!,d.params.defaults=[],no!,.call eQ! nn_,np!,λf vs=>PySem.call f vs,nq!,Ak k callerA,nr!,f2 Bb i3! (fC eK!),ns!,Ac (f1 Bn (Ac q! (Ac ut! Ag))) Ag,nt!,Option.none,nu!,aD aB aK,nv!,λm hm=>hm,nw!,λ_ _ _ q=>q,nx!,k==gD!&&env.scope.kind==.function&&env.kindOf n==some .cell,ny!,∀b∈fp,Fx X Y H2 b,nz!,Ow NL.length ix Z,nA!,Fz (Ao 1 Ef aX_),nB!,bG T.T8 T.U7 n_,nC!,cJ (cY T) d_ n_ b0!,nD!,wl (fC nC_),nE!,Am 2 (wl vk!),nF!,.str "numbers",nG!,Bq (Ao 4 Io (Ab l! gt!)),nH!,Da 1 [2,3] (Ja (Fj (f1 Bi (Ac bp_ Ag)))) L! gz_ (wl (Au (Ac (f2 An C_ (Au a8_)) (Ac (f2 Aj vk! q!) (Ac (fC B!) Ag))))),nI!,Da 1 [2] (Ja (Fj bp_)) L! gz_ (wl (f2 An (Fd vx! Aw cY_) (Au (Ac (f2 An (f2 Aj vx! aM_) q!) Ag)))),nJ!,V.ref p,nK!,λi d q _=>?_,nL!,f2 De eE_ N!,nM!,hw Z G H Q ρ d er e k,nN!,.str "refused",nO!,if b∈Jf own Z then none else G' b,nP!,k G' H' s',nQ!,⟨G,ρ,x,er,e1,λG1 H1 s1=>?_⟩,nR!,fT fa ρ,nS!,eW (eJ bY!),nV!,JL.mp nd,nW!,II.mp hx,nX!,(by rw[HY,HY];omega),nY!,bT sub qb,nZ!,Option Int,n0!,⟨o,J,h2⟩,n1!,(by rw[<-z];exact hq),n2!,Gl X "isinstance",n3!,bootBuiltins "isinstance"=some jH_,n4!,(im x).mp hx,n5!,setT W a l,n6!,("texts",.fn a3),n7!,Str.ofString "rows",n8!,starEach (a::[]) X.env=dy_::starEach [] X.env,n9!,ad .wri]
def z'nn:String:=z [na_,Il true,nb_,wl (Dr Ag),nc_,upd H l bb!,nd_,Ay t.B5 "outline" l!,ne_,Ao 1 (Et t) aX_,nf_,ay.endLine==ai.line,ng_,Ay t.B5 "ours" l!,nh_,cE (sc:=Ae Pw) rfl j_,ni_,n<=sizeLine,nj_,ks.map kV,nk_,aC (dH aH_ dW cZ!),nl_,bG T.T7 T.V3 n_,nm_,World->Heap->Prop,nn_,⟨bU_,[]⟩,no_,λr s'=>r=.ok (.ret eP_)/\OldK al.heap s'.heap/\s'.os=al.os/\AllBare s'.gens,np_,.bool true,nq_,λ_ _ _=>False,nr_,f2 An w_ (f2 Bo q! w!),ns_,W.fnOf x qual jk! bs! bc! .none kV bq pm an ah ct,nt_,Ac bZ_ Ag,nu_,aY (ne b _ e),nv_,aY (by simpa using hc),nw_,fC (.int 5),nx_,Inv X Y Z H2 s2,ny_,Yl X scope cl,nz_,Am 3 (wl jo!),nA_,f2 Er aE_ w!,nB_,aE v! eM!,nC_,.str "texts",nD_,Ab l! (Ab t_ (Ab D! gn_)),nE_,Am 3 (wl (Au vk_)),nF_,w2 Ce l! jr!,nG_,Bq (Ao 4 Io (Ab l! tN!)),nH_,List (L2.Key×V),nI_,ds.drop n,nJ_,some cq!,nK_,f2 Bo (f1 Bn vO!) (fC (.int 6)),nL_,Yg nl ix ρ,nM_,Ao 1 Lw gn_,nN_,wl (fC nN!),nO_,(o.nm,o.v),nP_,t.HandsError,nQ_,(d1_).Nodup,nR_,⟨G,ρ,.bl x,er,kG e1,v7_⟩,nS_,tZ h.ok,nV_,f1 g fs,nW_,[(.non,.non)],nX_,[("following",.fn f),("preceding",.fn p)],nY_,(by show 1<=1000;decide),nZ_,sub.seq q,n0_,jD.mp hq,n1_,z▸IM (f:=c_) hq,n2_,X.mg "isinstance"=none,n3_,bs.all id,n4_,(n4!).resolve_right q,n5_,if x=a then l else W.txt x,n6_,List.range n,n7_,Str.ofString "texts",n8_,Str.ofString "numbers",n9_,V.dm b x->kget k x=some (.fn (ad e3!))]
def z'o:String:=z [oa!,¬V.dm b x->kget k x=none,ob!,GD X.K g bnd,oc!,J.ok G0 F0,od!,.If c b1 b2 pos,oe!,∀{a1 a2 a3 a4 a5 a6:Addr},(bJ!).lookup m=none,of!,x∈W.its,og!,.inr (.inr ⟨al!,rfl⟩),oh!,mup_ne p1,oi!,h5.mono x.g,oj!,[e5_,bJ_,G_],ok!,h.noOb oM2,ol!,⟨m9 iu,?_⟩,om!,A.deeper (envOfC qual bc! s.heap.objs.size ag ah),on!,λq hq y hy q' be e=>?_,oo!,es.getD j .non,op!,us'.toArray,oq!,[g4!,g3_],or!,List.range m.toNat,os!,ad==sysModules,ot!,Sum.inr z,ou!,Addr->Option w9_,ov!,A'.handled,ow!,some xf!,ox!,[X_,b5_,G_,dd!,some tx,some dq,ow!,some gs_,q8],oy!,hO.mono a!,oz!,Ab j5_ (Ab (wl f2) Af),oA!,Vx ad V,oB!,IF λz=>hx xF_,oC!,⟨_,rfl,?_⟩,oD!,"StopIteration",oE!,.type "zip",oF!,mO.mp z,oG!,λc o _ _ hc e _=>kp c o hc e,oH!,IR.mp z,oI!,λc ps e=>lB_,oJ!,IR.mpr rfl,oK!,λ_ e'=>e',oL!,⟨c1,rfl⟩,oM!,λc hc=>?_,oN!,Jz Pd P w K mg base N x bc! ag ah A outer s H E,oO!,.tup [.str a,.str b],oP!,(nL l c k).binds b,oQ!,ns.map D.int,oR!,Uz rows,oS!,rows.map c_,oT!,.lst its,oU!,Jw P w s.heap x u,oV!,c6.length,oW!,cs.map Qi,oX!,MY ho hd (HM (b7o hu q2 hk (HM (MY ho hd ?_)))),oY!,.str letters,oZ!,[ae_,ao_,av!,bh!,bL_,b7!,cC_,km!,fk_,some P!,none,none],o0!,some (Qg b6),o1!,[ae_,ao_,av!,bh!,bL_,b7!,cC_,km!,fk_,some P!,some sg,none],o2!,Bg h1 d x,o3!,h2.mono e,o4!,(kr_).set p.toNat fo!,o5!,[aR_,aR!,.int (k:Nat)],o6!,st.mr.ext x,o7!,λd M2 v G2 H2 r2 x2 m2 q2=>k d M2 v G2 H2 r2 b8_ m2 q2,o8!,Cs (D.str k::r) 0=_,o9!,IB (by simp only[IH];omega)]
def z'oo:String:=z [oa_,az.mono x2.g,ob_,x.sub.free hp,oc_,swapsWith e (some db!) pos.line X.env=pure false,od_,ρ.set i nJ_,oe_,.bl (decide e4!),of_,.lst cu_,og_,starEach [] X.env,oh_,.inl ⟨rfl,vs,Fh.of h3⟩,oi_,Du ds.length j,oj_,Df x=some kx,ok_,(e7!).set p.toNat f5_,ol_,⟨l,?_⟩,om_,Jz Pd P w K mg base N qual bc! ag ah A outer s H E,on_,ds.getD j .non,oo_,us'.toArray.size,op_,hI.row (x:=i) (b:=false) hi,oq_,Fh X.K H a vs,or_,(or!).map λk=>.tup j2!,os_,bu.lookup y,ot_,Sum.inr z,ou_,cs.zipIdx k0,ov_,(cz!).map c_,ow_,[X_,b5_,G_,dd!,some tx,some dq,ow!,some gs_,some bK_],ox_,(.tup j4_,.str at!,true),oy_,.obj C fs,oz_,⟨ho,rfl,k⟩,oA_,V.nw x b,oB_,mup_ne hn,oC_,V.nn x fc_,oD_,CQ s.heap l1 l2,oE_,HU _ hb!,oF_,(λv y=>by cases y),oG_,λc o _ _ hc e _=>⟨o.slots,kp c o hc e⟩,oH_,λc o hc e=>⟨o,kp c o hc e⟩,oI_,I.hok c o e,oJ_,λd o' hd e'=>kp d o' (λhm=>?_) e',oK_,aY (ne c _ e),oL_,aY (ne d _ q),oM_,Fo K mg x st ps,oN_,Ue n es,oO_,(a==k||b==k),oP_,W.mg_of X G a,oQ_,Sy rows,oR_,.str "move",oS_,.str "undo",oT_,List L2.Key,oU_,some (.lst c6),oV_,letters.length,oW_,⟨cs.toArray⟩,oX_,λ_=>some true,oY_,Option Nat,oZ_,HM (sK hu hk λtk=>HM yu_),o0_,ae!<=sizeLine,o1_,[.tup [bg_,.int (1+m0%5)]],o2_,hH.trans J,o3_,D->Mh->Prop,o4_,List D->Mh->Prop,o5_,hw Z G H Q ρ M R st e k,o6_,⟨a',b',c',e',IT _ hm⟩,o7_,.str k',o8_,.tup (.str k::a::r),o9_,.tup (.str k::a::b::r)]
def z'p:String:=z [pa!,.tup (.str k::a::b::c::r),pb!,Ab j5_ (Ab (wl f2) (Ab (wl f3) (Ab (wl f4) Af))),pc!,some (.inl (.inr "bin")),pd!,(k=="undo"||k=="redo"),pe!,Str.ofString "redo"==Str.ofString "redo",pf!,HM (OJ hT O_),pg!,(Aj o.v bo!).bind λx=>Aj x F_,ph!,(∀o∈os,DG o.d),pi!,Fh K H p ys\/Fy K H p ys,pj!,h2 b hb,pk!,[d4_,af!,none],pl!,α->Prop,pm!,Jb .str aS_ [],pn!,q.2.length,po!,mup M b c,pp!,(b8_).trans x3 m2,pq!,⟨_,dy!,ye_,rfl⟩,pr!,⟨[],bQ,.nil,LN⟩,ps!,(∀b,M b≠none->M' b=M b/\¬O b),pt!,(by show 2<=1000;decide),pu!,MS X own bc st q1,pv!,os.map Op.nm,pw!,sr.grow x m,px!,λy hy=>hd y dO_,py!,Jv M3 d y v,pz!,As ft q1 Bp,pA!,Iq P w K own M0 G0 F0 M1 G1 H1 Z ρ,pB!,.int zQ_,pC!,MI X own tg iter fi,pD!,some (.lst pC_),pE!,.int pD_,pF!,((bP_+(m+1):Nat):Int),pG!,Xi P w K ps.length g,pH!,.obj C [],pI!,D.str.inj z,pJ!,W.rows.map Bk,pK!,HS _ hA_,pL!,(λi v=>∃e,es[i]?=some e/\v=e.key),pM!,.int Ae_,pN!,(by simpa using qi),pO!,[some (Bk q),G_],pP!,jo b hb,pQ!,.lst ((d9!).take a),pR!,.lst [Bk bH!],pS!,W.rows.filter λq=>decide fw!,pT!,.lst [p],pU!,Aa 2 ρ=some cD!,pV!,Option Nat->SortSt->Prop,pW!,.lst kZ_,pX!,((n:Nat):Int),pY!,cH! / 2,pZ!,[V!,Z_,AR!,k1!,y4,some k0!,hC_,kP_,none,none],p0!,aT (d:=hG_) rfl,p1!,.str "numbers",p2!,Jh W ao! W.rows,p3!,(p2_).map kf,p4!,Ak k X.A.in1.in1,p5!,ku.length,p6!,fa ρ=some y,p7!,Fe x.d=none,p8!,seqObj "list" #[] e1,p9!,Iu ee_ ds]
def z'pp:String:=z [pa_,Ab j5_ (Ab (wl f2) (Ab (wl f3) Af)),pb_,⟨o,h⟩,pc_,[.str k,a],pd_,Str.ofString "undo"==Str.ofString "undo",pe_,ops.map Op.key,pf_,.bl (Fe o.d).isSome,pg_,[Z!,af!,y],ph_,.dct acc ep,pi_,compareOp .NotIn,pj_,mup_ne hb,pk_,λx=>?_,pl_,kget wd o.nm,pm_,.dct q.2.1 q.2.2,pn_,HL M0 M l,po_,kget q.2.1 y,pp_,[(root,y),(Db,z)],pq_,I.laid (t':=s.toks) ua_ v_ ⟨⟨D0,KN.mpr (JE (JF I.big)),JK _⟩,let⟨o,h,_⟩:=D0;pb_,yU!⟩,pr_,Value×Value,ps_,⟨λ_ h=>hv!,LN,λ_ h=>hv!,iB!⟩,pt_,.inr (s.noF z),pu_,J.ok M0 G0 F0,pv_,Lp wd os,pw_,some x.v,px_,λy hy=>hp y dO_,py_,Tx ft ρ M false,pz_,M p=some Q_,pA_,((j:Nat):Int),pB_,[Z_,zQ!,K!,some pB!],pC_,(X!).map Op.v,pD_,(bP_:Nat),pE_,((bP_+m:Nat):Int),pF_,[Z_,hz!,K!,z],pG_,λd M1 v G1 H1 r1 x1 m1 q1=>?_,pH_,(Str.ofString "undo"==k||Str.ofString "redo"==k),pI_,Oa s.heap d es ep,pJ_,k3 (.lst pJ!) ft_ d8!,pK_,rawInt fu!,pL_,rs.take k,pM_,An hy! a9!=_,pN_,(q.2:Nat),pO_,λK hK=>?_,pP_,((aq!:Nat):Int),pQ_,.bool (lexLt ms ns),pR_,HT.lexLt ms ns,pS_,!decide (x=i),pT_,m1.ext xj,pU_,(qa i,Cw.lst (if i=a then(kr_).set p.toNat fo! else W.num i)),pV_,∀k σ,SB kd a0 σ->1<=k->k<=n->Up r x_ k->Q (some k) σ,pW_,l.map Cv,pX_,.int cb_,pY_,λe=>?_,pZ_,HS _ hz,p0_,aT (d:=dm!) rfl,p1_,ni i hi,p2_,L.map M!,p3_,Y++[ed_],p4_,a1g hL dv0 mX bp,p5_,λd q=>Mc d=some q,p6_,[Z!,V!,af!,some x.v],p7_,∀H':Hp,H' a=none->Fx X Y H' a,p8_,Paired cI! ds us,p9_,(by rw[KZ];omega)]
def z'q:String:=z [qa!,Hx g q.2,qb!,QC ?_ bL!,qc!,List (Addr×D),qd!,cs.map M!,qe!,s.heap.IsList l co_,qf!,ds.all λd=>(Mc d).isSome,qg!,Iu kf2 ds,qh!,seqEpoch_at l9 rfl ?_,qi!,(λq=>nomatch q),qj!,mixKind prog w,qk!,⟨u,lf_,h2⟩,ql!,ts.set k qk_,qm!,bS rfl (bS rfl rfl b7k) rfl,qn!,W.fnOf "__init__" qual jk! bs! bc! .none kV bq pm an ah ct,qo!,∀b xs,H b=some bw_->H' b=some bw_,qp!,[ae_,ao_,eg_,some lj_,some (.lst [.int (c 0),.int (c 5),.int (c 15)]),some (.lst [.int (t 0),.int (t 5),.int (t 15)]),x6,x7,x8,x9],qq!,[ae_,ao_,eg_,none,none,none,none,none,none,none],qr!,Un fs ex H H1 h J,qs!,∀h' T,g!<=T->XF n h' e T cls lm_->Kp [e] fM_ s.heap h'->h'.FunFrames base bk!->Q () {s with heap:=h'},qt!,[UF,.ref L,bX!,rawInt L,bX!]++(if pl.isEmpty then List.replicate 6 ce_ else pl),qu!,(·.setIfInBounds 1 (Value.ref hT!)),qv!,(J.push ob).update e qw!,qw!,Obj.mapFields qu!,qx!,List.range bR!,qy!,XF n s.heap e T cls fl,qz!,X.env.kindOf x=some .cell\/X.env.kindOf x=some .free,qA!,Obj.mapFields (·.setIfInBounds 3 ce_),qB!,I.ok.noex b o e,qC!,b6 e (JE qo),qD!,Obj.mapFields (·.setIfInBounds 3 qC_),qE!,.Tuple es x1 pos,qG!,fA (k:=ls_) ht rfl,qH!,λi x v e1 e2 e3=>?_,qI!,(λ_ z=>nomatch z),qJ!,hF yy ta wa .non,qK!,.type "ValueError",qL!,.type "BaseException",qM!,.type "object",qN!,∀b u,s.heap.get? b=some u->h'.get? b=some u,qO!,hF yy ta wa out,qP!,mup_ne (JE at_),qQ!,mup_ne (JE aw),qR!,λc w' hc q=>(hs.2 c ?_).trans q,qS!,⟨fS!,fS!,I.base.free,lx_,I.base.tups,I.base.frzs,I.base.tbls⟩,qT!,[(false,eval ex X.env)],qU!,.dct (fO_++qR_) bu!,qV!,.Raise (some (.Call (.Name x np) [ex] [] ai)) none pos,qW!,z.sameBut hs (cne y c e),qX!,.type "BaseException",qY!,SC (k _ _ he) (HP (hc▸q)),qZ!,backTo pos lI_,q0!,λ_=>hz.1 rfl,q1!,List.replicate n none,q2!,ta Z H λx H1=>tb Z H1 λy H2=>R x y H2,q3!,∀v u s2 x y H2,Inv X Y Z H2 s2->Bl x v->Bl y u->R x y H2->wpAny e! X.A (f v u) Q X.xe s2,q4!,λv al=>wpAny e! X.A u0! (λu ao=>wpAny e! X.A (f v u) Q X.xe ao) X.xe al,q5!,[.Assign [.Name xn xp] he ap],q6!,.Constant ak_ j pos,q7!,.Constant .none j pos,q8!,λb hb=>(mup_ne (dP hb h0)).trans fU_,q9!,(by rw[I.ok.glob];exact I.mod.glob.keeps I.bk)]
def z'qq:String:=z [qa_,(by rw[<-z];exact hc),qb_,(cd_).push ce!,qc_,cs.map λc=>.fn c.1,qd_,Addr×D->Prop,qe_,acc.toList,qf_,ds.map kf2,qg_,if h=a then t a+1+m / 3%3 else t h,qh_,fx ρ=some b4_,qi_,Iv fG! (Lk h3 p.1.1)<Iv fG! (Lk h3 q.1.1),qj_,cs.set k (.int (c+1)),qk_,.int (t+1+m / 3%3),ql_,∀{ag:Addr} {ah:Value} {A:Around} {outer:P_} {s:Shared} {H:Hp} {E:XK},Ak k om!->Tz (om_).nox [] ae bs! q,qm_,.tup (p.1.map kV),qn_,(∀f,Nt (fs.lookup f) (mA f)),qo_,W.methodObj af_ (.ref y),qp_,∀b u,b≠e->h.get? b=some u->h'.get? b=some u,qq_,a.old x o l m e,qr_,.tbl (ps++pe),qs_,λa b e=>?_,qt_,Str.ofString "ours",qu_,Str.ofString "taken",qv_,Str.ofString "waiting",qw_,(Str.ofString "taken",.fn ta),qx_,h.get? b=some o,qy_,IB (show(Value.ref T != Value.none)=true by simp),qz_,((ds_).length:Nat),qA_,⟨o.slots,by rw[b6 b (λz=>yb (z▸hb))];exact eb⟩,qB_,b6 b (λz=>by subst z;rw[ht]at eb;cases eb;exact t9 _ j7),qC_,fo.elim Value.none λf=>rawInt f,qD_,lB aC_ lu! (aT hI!) (sP hA),qE_,T∈ak\/g!<=T,qG_,aT (d:=.int 2) rfl,qH_,(a,.obj t.B5 []),qI_,⟨_,a7,bg,hL,r'⟩,qJ_,⟨hb b h,x.ge b h⟩,qK_,.type "Exception",qL_,λb u e=>?_,qM_,(by rw[hp];simp),qN_,.lst ((dt_).map Op.v++[o.v]),qO_,e1.trans e2.symm,qP_,storeName X.env x u,qQ_,I.hok b ob e,qR_,[(.int o.h,.fn q)],qS_,λj y v' e1 e2 e3=>?_,qT_,starEach [ex] X.env=qT!,qU_,(by simpa using I.len),qV_,λ_ Z H=>te Z H λ_ H1=>R W! H1,qW_,⟨(hs.2 p.1 ne).trans e,n,ne,nf,d⟩,qX_,Bool->Hp->Prop,qY_,(by rw[<-e];exact hl),qZ_,upd H1 dx hS_,q0_,α->Shared->Prop,q1_,V->V->Hp->Prop,q2_,Br t M0 yy a ta wa out S kl ca,q3_,∀a pn oe c,eW!∈pn->oe.cls=.ref c->PE ib_ he λZ H Q=>Z[ie]?=some he_/\∃v,hv c=some v/\Q v H,q4_,("__classdict__":Str),q5_,Za X bF_ (xT X Y D (.ExceptHandler vC! (some en) q5! hp)),q6_,some (.inr [.inl o.h,.inl o.n]),q7_,[A_,Z!,af!,K!,kD_,K!],q8_,eval cN_ X.env,q9_,bootBuiltins x=some u]
def z'r:String:=z [ra!,∀o∈ms,Nx yy S o,rb!,op==CmpOp.NotIn,rc!,cX (ha Y s Z H Q I h) λc s1 e=>?_,rd!,cX bR_ λc s1 ⟨H1,I1,q1⟩=>?_,re!,Jz lA_ P w K mg base N x bc! ag ah A outer s H E,rf!,h Y s Z H Q I hw,rg!,(by simpa using hs),rh!,∀M',kE_->R .non M',ri!,X.N[ie]?=some en,rj!,ys.map λ_=>true,rk!,(en==q4_)=false,rl!,starEach lX! X.env=(false,eval (.Name en p2) X.env)::starEach [il!] X.env,rm!,starEach [il!] X.env,rn!,.Name "isinstance" p1,ro!,W.subIn X.K (.ref C1) aL!=some true,rp!,.Subscript o i pos,rq!,eval i X.env,rr!,[A_,il_,some F_,none],rs!,(l.filter λx=>p x||q x),rt!,[.Name x pos'],ru!,(by rw[SK];omega),rv!,ks.map D.int,rw!,(dx!).map Op.v,rx!,([]++kl.flatMap (hs S)).map Op.v,rz!,(by rw[z];exact hb),rA!,letOwnedTupleGo tg bS! u,rB!,mup M1 a l4_,rC!,(∀b o,b≠I->b≠S->h.get? b=some o->h'.get? b=some o),rD!,["enumerate","zip","dict_itemiterator","dict_reverseitemiterator","odict_iterator","itertools.zip_longest","itertools.pairwise"],rE!,Around.under_plainId LK,rF!,(by simpa using ub),rG!,(by simpa using hu),rH!,OX jw λ_=>#[.int x t,.int x t],rI!,⟨o,(JI _ _ yf).trans e1,e2⟩,rJ!,(p.1++[n],λx=>if x=n then[.int 0,.int 0,.int 0,.int 0]else p.2 x),rK!,(p.1,λx=>if x=a then(p.2 a).set q.toNat fo! else p.2 x),rL!,[fh_,a,.int q,fn_],rM!,(W0.its,W0.num),rN!,∀x∈S,x.tm<u.tm,rO!,∀t h' ce,rN_->Q (.int (Yx none xs) t) {s with heap:=h',toks:=ce},rP!,[(Str.ofString "default",dv)],rQ!,(match Fe o.d with|some (k,a)=>_|none=>_),rR!,.Name "range" p,rS!,(by rw[hS];exact LO (OL _)),rT!,⟨_,HU _ gI,rfl,rfl⟩,rU!,⟨o,HU _ (gk _ _ e1),e2⟩,rV!,starEach al! X.env=[dy_,iw!],rW!,starEach [b] X.env=[iw!],rX!,HU _ (gk b o e),rY!,(by rw[e];exact HX),rZ!,aS b6r b6u aB aB,r0!,kl.map (lt S),r1!,T.obj _ _ ml,r2!,HZ _ (HZ _ (iO hb e)),r3!,I7.pin (b,o) r2!,r4!,Value->Sem Value,r5!,c9v ha hb I h λv u s2 x y H2 I2 rx ry q=>ho Y s2 Z H2 x y v u Q I2 rx ry q,r6!,.int bm! s.toks,r7!,⟨.int bm!,H,aU_,L_,q⟩,r8!,intBits_le_64 J h2,r9!,Rs λi j=>.int (i - j)]
def z'rr:String:=z [ra_,op==CmpOp.In,rb_,.Try body [.ExceptHandler vC! (some en) q5! hp] [] [] tp,rc_,[A_,af!,bi_,kD_,some ft!],rd_,⟨H1,I1,q1⟩,re_,λx hx=>hk x cB_,rf_,cX (hc Y s Z H _ I h) λd s1 ⟨H1,I1,q1⟩=>?_,rg_,Addr->Option D,rh_,um.mem_iff.mp ho,ri_,X.mg xC=some (.ref C1),rj_,(en==lL_)=false,rk_,.Return none pos,rl_,starEach [il!] X.env=(false,eval (.Name xC p3) X.env)::starEach [] X.env,rm_,(λ_ s'=>∃ac H',Inv X Y ac H' s'/\Q ac H'),rn_,St->Hp->Prop,ro_,List.mem_of_getLast? e,rp_,PyData.tuple me!,rq_,Str.ofString "(",rr_,ho Y s Z H _ I h,rs_,cX ch_ λv s1 ⟨x,H1,I1,r1,q1⟩=>?_,rt_,FJ X own n es g,ru_,(by rw[SK];omega),rv_,⟨by simp only[IP];unfold big;omega,?_⟩,rw_,.While c body [] pos,rx_,sr.st.grow x1 m1,ry_,(by rw[hp.length_eq];exact hS),rz_,aT (d:=.non) rfl,rA_,(by simpa using b1),rB_,DN X Y Z tg R,rC_,eR aC_ hob hF4,rD_,.builtin "max.loop" ⟨[.ref I,bX!,.ref S],kw⟩,rE_,LV hS rfl ?_,rF_,aT (d:=aK!) rfl,rG_,λb o hb e=>(sb.2 b hb).trans e,rH_,⟨o,(JI _ _ ub).trans e1,e2⟩,rI_,.old hA.2.1 hA.1,rJ_,hl Y s Z H _ I h,rK_,(by simp[Yx];omega),rL_,(W'.its,W'.num),rM_,((S++[u]).map Op.key).Nodup,rN_,(∀b o,s.heap.get? b=some o->h'.get? b=some o),rO_,(((md!).toNat:Nat):Int),rP_,["key","default"],rQ_,starEach [a] X.env=[dy_],rR_,HP (HM (QW hl (HM qb!))),rS_,(by rw[hS];exact LO (OA uc)),rT_,.Call rR! [a] [] pos,rU_,(by rw[hS];exact JF (OA hb)),rV_,S.map Op.tm++[0],rW_,.Call rR! al! [] pos,rX_,a7n (l:=S.map Op.tm++[0]) b_,rY_,l.map λh=>D.int (f h),rZ_,.For tg iter body [] pos,r0_,λb hb=>(dz!).1,r1_,step x H5 y5,r2_,(∀b o,b≠e->b≠it->s.heap.get? b=some o->h'.get? b=some o),r3_,items[i]?=some x,r4_,KB he rfl (x:=.ref it) rfl ?_,r5_,eR aC_ hA.ob hF1,r6_,aT (d:=.tup mj!) rfl,r7_,(cu_).getD i.toNat .non,r8_,⟨hx,i0,i3⟩,r9_,binaryOp .Mult]
def z's:String:=z [sa!,.tup [fh_,x,V_,fn_],sb!,[H!,x,V_,fn_],sc!,⟨_,hx,rfl⟩,sd!,(iC!).flatten.zipIdx.map λq=>f4_,se!,compareOp .Gt,sf!,(os.filter p).map Op.v,sg!,⟨_,he,rfl⟩,sh!,λx y H Q=>r x y H Q\/r' x y H Q,si!,⟨_,_,_,he⟩,sj!,∀b∈bw!,Fx X Y H b,sk!,Wf r r' ta tb tc,sl!,(hs S yy).map Op.v,sm!,(xs.take ab_).zipIdx.map λq=>f4_,sn!,Al X.K G xs vs,so!,U.filter λo=>!decide (o.h=k0),sp!,.builtin "abs",sq!,mup M c (.dct sm! ab_),sr!,upd H c (dE c a7 ab_),ss!,(λxs H Q=>∃x,xs=[.str x]/\cR_=1/\Q sr_ H),st!,Option Value,su!,.type "dict",sv!,W.hasDictIn K C=true,sw!,Value×List Value->Shared->Prop,sx!,some (.builtin "object.__setattr__"),sy!,.Name "enumerate" p2,sz!,[.Call sy! [a] [] uf],sA!,lE s y1 a S y4 bz! cS_ y7 y8 sz_ y10 y11 y12,sB!,λb hb=>(fU_).1,sC!,Result->Shared->Prop,sD!,W.findIn K W! "__init__"=some eu_,sE!,aT (d:=V_) rfl,sF!,[K_,a6_,cT!,"ahead","follower"],sG!,some (.bl sE_),sH!,(show∃t,u=Value.int i t from r),sI!,"operation_name",sJ!,[K_,aM!,"first","many","k",a6_],sK!,[ev_,"words",bU!],sL!,[ev_,iL_,"left_out",bU!,a6_],sM!,(by rw[e];exact iM!),sN!,[R!,mC!,"fresh",bU!,a6_,"same"],sO!,[R!,"many","found"],sP!,[R!,bU!,"known"],sQ!,[R!,"have",mD_],sR!,.Attribute e f pos,sS!,[bn!,iN!,ck!,a7_],sT!,[cU_,iN_,mF_],sU!,.Call (.Attribute e m ay) args [] pos,sV!,[a7!,ey_,bn!,iN_,cU_,"_law_items_here",a8!,mH!,"_law_kinds","_law_kind","_law_sign","_law_names"],sW!,[bn!,iN!,ck!,ck_],sX!,"_law_parent_here",sY!,[cV_,a8!,sX!,sX_,mG_,ck_,a7_],sZ!,[cV_,ck!,cV!,mJ_,"_law_good",mG_,ck_,a7_,"_law_new",mK_],s0!,[a7!,ey_,dF!,iP!,bn!,ez!],s1!,[bn!,dF!,cV!,"_law_times"],s2!,[ez!,a8!,ck_,mO!,iN!,"e"],s3!,I1.laid (t':=s1.toks) (λb u e=>HU _ e) v_ ?_,s4!,[a7!,"_law_made",ez!,bn!,a7_,a8!,ck_,mO!,cV_,"_law_good","_law_due","_law_after","_law_operation"],s5!,lE d0_ (some mK!) a S none none none none none none none none none,s6!,λv H2=>v=.non/\Q fI! H2,s7!,cX me_ λus s1 ⟨vs,H1,I1,r,q⟩=>⟨I1.kIn,?_⟩,s8!,starEach aD_ X.env,s9!,⟨I2.kIn,?_⟩]
def z'ss:String:=z [sa_,[Tv S yy x i v],sb_,aT (d:=sa!) rfl,sc_,compareOp .NotEq,sd_,AV X Y H s.heap e it i,se_,(by rw[show(((i+1:Nat):Nat):Int)=(i:Int)+1 by omega];exact a),sf_,λx y H Q=>y=.non/\Q (.bl (decide (x=.non))) H,sg_,λx y H Q=>y=.non/\Q (.bl (!decide (x=.non))) H,sh_,F.args_enumerate_next_1 _,si_,.lst ((S.map Op.tm).map D.int),sj_,⟨by rw[IP];unfold big;omega,?_⟩,sk_,hc Y s3 Z H3 _ I3 q3,sl_,⟨_,he,gK!⟩,sm_,IB (by simp only[IP,IH,MN];unfold big;omega),sn_,⟨H,aU_,by rw[vB r];exact q⟩,so_,(show False from e),sp_,(λxs H Q=>∃i,xs=[V_]/\Q (.int iG_) H),sq_,.builtin "ord",sr_,.int (x.cps.getD 0 0:Nat),ss_,.builtin "len",st_,⟨.int i_,H,aU_,⟨_,by simp only[HY];rw[av]⟩,q⟩,su_,W.plainGet K C name=true,sv_,Aa 6 ρ=some ak_,sw_,ft ρ M λb M1=>if b then q1 ρ M1 iH_ else q ρ M1 R,sx_,mup M1 p bT_,sy_,cS!<=sizeLine,sz_,some (.bl g),sA_,λo ho=>(hH.op o ho).dg,sB_,.lst (List.replicate n.toNat vs).flatten,sC_,W.makesIn K C=true,sD_,.Pass ⟨0,0,0,0⟩,sE_,decide mz!,sF_,[K_,a6_,"ahead","follower"],sG_,[K_,aM!,"parent","sibling","place"],sH_,(show∃t,u=Value.str x t from r),sI_,[K_,sI!,aM!,"behind","text","ahead","k","sign",a6_],sJ_,(((hs S 15).length:Nat):Int),sK_,[ev_,"words","names",bU!,a6_],sL_,.ins C dx (Ko f y fs),sM_,if g=f then some u else mA g,sN_,[R!,"fresh","times",a6_,"time"],sO_,λb u q=>HU _ q,sP_,[R!,mC!,"many",bU!],sQ_,[R!,"deed",a6_],sR_,[a7!,a7_,cU_],sS_,NI (MF j7 _),sT_,backTo pos (starEach args X.env),sU_,keywordEach [] X.env,sV_,[a7!,ey_,iP!,bn!,"_law_counts","_law_times",a7_,cU_,ck_,cV!],sW_,[bn!,"_law_last",ck!],sX_,"_law_sibling",sY_,[cV_,a8!,mH!,"_law_above"],sZ_,[bn!,cV_,"_law_undone_here",ck!],s0_,os.filter λo=>!decide in_,s1_,[ae_,some F_,some gF!,eg_,none,none],s2_,cX (h pos Y s Z H _ I hq) λus s1 ⟨xs,H1,I1,r,z,q⟩=>⟨by rw[<-r.length];exact z,?_⟩,s3_,[ez!,a8!,ck_,iN!,"e"],s4_,fC (.int 60),s5_,λb z=>absurd z b_,s6_,aP (lH T) d_ rfl bV_ as_,s7_,f1 Dw (Ac (Fd q! Aw cY_) Ag),s8_,fZ (eJ (kI mP rfl T.R3 rfl T.S1 cI pP B_)),s9_,f2 Bs q! ct!]
def z't:String:=z [ta!,I.hok.fresh (LX _),tb!,aP (iM T) d_ rfl mT! as_,tc!,.Call (.Name x p) [] [] pos,td!,fF aF_ cB B_ aR u!,te!,fF a6z a7j B_ dD u!,tf!,(by simpa using h2),tg!,[dG!,.fn t.B0,.fn t.B1],th!,([]:List Addr),ti!,λb z=>absurd z (rm b),tj!,W.fnOf name qual params body scope dV kV bq pm an ah ct,tk!,aG (fS T.T7 T.V6 n_ bW!),tl!,On (Eb bW_ bW_ My),tm!,cX me_ λus s1 ⟨vs,H1,I1,r1,q1⟩=>hc Y s1 Z H1 vs us Q I1 r1 q1,tn!,cP (aD ba! mT!),to!,gV (n:=10) rfl,tp!,if v<0 then max mZ_ 0 else min v (n:Int),tq!,s.heap.IsSliceOf sl vl vu .none,tr!,Bd t.B6 "has" 2 (Ek t) l! dI_,ts!,List.range k,tt!,Bx dJ_ t_ gl_,tu!,Uq m2_ (wl eE_),tv!,sIx items.size items.size hi - sIx items.size 0 lo,tw!,Str.ofString "__getitem__",tx!,tw_==0&&(1:Int)==1&&tv!==c0!,ty!,aS eB eC ba_ aB,tz!,aS aN bE S! aB,tA!,Bq (Bd t.B7 "put_behind" 3 (Cm t) (w2 Ce gm! D!) (Ab dK! (Ab cn! Af))),tB!,Bx tA_ dK! (wl bZ_),tC!,aS mH mI ba_ aB,tD!,Am 5 (wl (f2 An (Fd C_ Aw cY_) (Au gq!))),tE!,As (wT (Bd t.B7 "holds" 2 (Hf t) (w2 Ce gm! t_) (Ab cn! Af))) (Bx (Ay t.B6 "hidden" l!) cn! gr!) Bp,tF!,w2 Ce m2! t_,tG!,wl (f2 Aj bp_ w_),tH!,λ_ _ _ _ _=>bH (i:=0) (show([ck!,a8!]:List Str).Nodup by decide+kernel) rfl a_,tI!,bY cO eF rfl T.R4 dY (aD ba_ aK),tJ!,⟨z,H,I,az,q⟩,tK!,slot_list_getitem.lookup,tL!,Dd (fT (f2 Bb bq! (fC eK!))),tM!,(·.setIfInBounds j u),tN!,Ab c2_ (Ab iY_ (Ab bW_ Af)),tO!,upd H p (.lst (xs.set j v)),tP!,Dd (fT (f2 Bb bq! (fC dH!))),tQ!,(by rw[hk];exact⟨_,I',q⟩),tR!,Dd (fT (f2 Bb bq! i9_)),tS!,Am 1 (Hj t.B6 1 (Hn t) Af),tT!,if a then 1 else 0,tU!,Ab t_ (Ab aN_ (Ab (wl nb!) Af)),tV!,Ga t.B5 "outline" l! bW_,tW!,λw hw=>uO rx fx r fs w mZ!,tX!,λh' c' kp e=>fin its r' hz h' c' kp e,tY!,Bj (wl (f1 Dg dG_)),tZ!,(λ_ e=>nomatch e),t0!,f2 Aj w! G!,t1!,⟨⟨o,e,ex.1⟩,λa e2=>?_⟩,t2!,aE br! (aE aI! (aE bW! aO)),t3!,aW (i:=5) iG.nd rfl a_ t4!,t4!,cH N_ bI bE! br! q_,t5!,wl (f2 Aj N! G!),t6!,List.replicate k xs,t7!,List.replicate k its,t8!,f2 Er S_ D_,t9!,Obj.mapSeq f]
def z'tt:String:=z [ta_,(Value.ref ac!::eU!),tb_,aP (iL T) d_ rfl (aD (dH B_ dW cZ!) aK) as_,tc_,aP (iL T) d_ rfl bV_ as_,td_,(∀v,(x,v)∉binds),te_,(by simpa using J),tf_,cellsFrom ac! scope.names [],tg_,Jz CX P w K mg base N qual scope f cd A outer s H E,th_,(show b∈th! from z),ti_,x.above y c (MJ h),tj_,∀vs H Q E,sp vs H Q E->a4_=R_,tk_,bC (bP (aM aH aL B_ (aS eB eC S! gg!) q_)),tl_,iP I hg hm hv ?_ hn a8,tm_,gV (n:=8) rfl,tn_,λ_ _ _ _ _=>tn!,to_,if v<0 then(mZ_).toNat else min v.toNat n,tp_,((sIx n n hi:Nat):Int),tq_,f2 Er w! C_,tr_,Bx m0! t_ aN_,ts_,Bq (Bd t.B7 "put_behind" 3 (Cm t) (w2 Ce dJ_ aN_) m1_),tt_,Bx gm! t_ gl_,tu_,Bx m2! t_ tu!,tv_,aP gA! d_ rfl (aD B_ (aD tz! aK)) ag_,tw_,((sIx items.size 0 lo:Nat):Int),tx_,As (Kl (wT (Bd t.B6 "can_move" 3 (Ee t) l! (Ab t_ dI_)))) Om Bp,ty_,aD (aP eH! d_ rfl (aD aA! go!) ag_) (aD cm_ aK),tz_,Option Int->Hp->Prop,tA_,Ay t.B6 "written" l!,tB_,s3.heap.objs.size,tC_,f2 An eI! D_,tD_,aS eB eC tC! aB,tE_,JM (rR xs lo hi) hz,tF_,(r.drop m5_).take m6!,tG_,As (Dd (fT (f1 At bD_))) (Bx t_ tG! (wl gr_)) Bp,tH_,λ_ _ _ _ _=>xQ (eW (bM c2! qK ba! S! u!)),tI_,(by rw[hj];simpa using ew),tJ_,λr s'=>r=w/\EP X Y Z Q r s',tK_,(by rw[HY]<;>omega),tL_,Dd (fT (f2 Bb bq! (fC i8_))),tM_,Dd (fT (f2 Bb bq! (fC m9!))),tN_,Dd (fT (f2 Bb bq! (fC gt_))),tO_,bM c2! qK S! aH! u!,tP_,bM aF_ cB ba! S! u!,tQ_,λ_ _ _ _ _=>dL_,tS_,wT (w2 na_ aN_ D!),tT_,if b then 1 else 0,tU_,As tS_ (Bq (Ao 3 (Mv t) tU!)) Bp,tV_,aE n_ (aE v! (aE H_ eM!)),tW_,(show its.toArray.any gu_=its.any gu_ by simp),tX_,(by simp only[HY]<;>omega),tY_,As (wT (w2 (λ_=>Bs) nd_ bW_)) (Ga t.B5 "outline" l! (Ao 1 (Jk t) (Ab ne_ Af))) Bp,tZ_,f2 Aj w! w_,t0_,Bd t.B5 "have" 2 gv_ l! (Ab je! Af),t1_,⟨o,e,ex.2.1⟩,t2_,As (wT (w2 i5! (Bd t.B5 "have" 2 gv_ l! bX_) aO!)) (Bj aO!) Bp,t3_,Bj (w2 Ce (w2 Ce (w2 Ce c3! t_) (wl (AB w_))) (wl aM_)),t4_,wT (Ao 2 (Ft t) ng!),t5_,backTo ai lI_,t6_,wT (w2 i5! t5! ng_),t7_,As t4_ (Am 5 (w2 Ce (w2 Ce c3! t5!) (wl (f2 Cu (f2 Aj N! w_) w_)))) (As t6_ Jr (Am 5 (Jq D! aN_ aN!))),t8_,As (Dd (fT t8!)) Jr Bp,t9_,Am 4 (w2 Ce (w2 Ce t_ aN!) (wl aM_))]
def z'u:String:=z [ua!,f2 Aj D_ G!,ub!,wT (w2 (λ_=>Ie) aN_ (Hs D! gy_ (Ao 2 (Es t) (Ab l! (Ab gy_ Af))))),uc!,Bx D! gy_ aN_,ud!,.cons ru .nil,ue!,fT (f1 Qr (Ac nj! Ag)),uf!,gj.toArray.size,ug!,wT (Ao 2 (Gr t) dN_),uh!,As ug! (Ah (Bq (Ao 2 (Jm t) dN_)) (Bj (w2 Pa gw! (Ao 1 (Fb t) aX_)))) Bp,ui!,(show(uh_:List Str).Nodup by decide+kernel),uj!,Bq (Ao 2 (Fm t) dN_),uk!,T.V7 _ rfl rfl rfl rfl,ul!,Kl (wT (Bd t.B6 "has_item" 2 (Bh t) D! bX_)),um!,Ah (As ul! (Pi t.NotThere E (We (gN 1 g0))) Bp) eJ_,un!,fT (f1 Dp bD_),uo!,As (Dd (Cr un!)) (Pi t.NotThere E (We (gN 2 g0))) Bp,up!,Bj (Gb 2 (Dj t) E dN_),uq!,Gb 3 (Cg t) E up_,ur!,pre_splitW uz,us!,w2 Pa D! (Rm (Ab (Ao 1 (Im t) aX_) bX_)),ut!,f2 An w! w_,uu!,Do.cons (j:=0) Do.nil,uv!,Qu (Fj (f1 Bi (Ac (f2 Aj bp_ az_) Ag))) al_ (Rq 1 uu_),uw!,(by rw[IP];exact hl),ux!,Params->W.Frag,uy!,∀(w:World) (h:Heap),YP w h->(bF!).In h,uz!,Cd 4 (f1 Bn (Ac q! dG_)),uA!,Cd 6 (f1 Cz (Ac (f2 An (Fd S_ (Av w_) Aw) (Fd S_ Aw (Av w_))) ns!)),uB!,∀(kV bq pm:Value) (an:aG_) (ah ct:Value) (us:g_),aq_=R_->bindArgs ns_ cX_=pure cW_,uC!,Ge (fT (Eg "str" bZ_)) (Cd 7 ct!) Cj,uD!,Cd 8 (fC (.lst [eK!,eK!,eK!,i8_,i8_,gt_,gt_,dH!,m9_,bC_,m7!,m9!])),uE!,Cd 9 (f2 Aj bZ! (f2 Bo N! uD_)),uF!,.inl (.inr ⟨o,e _ _ h⟩),uG!,aD aB (aD aB nu!),uH!,⟨o.slots,e⟩,uI!,rA (i:=4) c! c1! q_,uJ!,Ge (fT (f2 Bb aY! (fC m9!))) (Bc (Au (Ac aY! m4!))) Cj,uK!,Str×NameKind,uL!,Ge (fT (f2 Bb aY! (fC gt_))) (Bc (Au (Ac aY! (Ac aA_ (Ac dO! (Ac (f1 Nm (Ac (f1 Bn (Ac q! (Ac (f2 An w! nw_) Ag))) dL!)) Ag)))))) Cj,uM!,f2 Bz N! uD_,uN!,(if(k==gD!)=true then _ else _)=_,uO!,call eF_ (v::us),uP!,λ_ _ _ _ _=>bH (i:=0) (show([ck!,dF!]:List Str).Nodup by decide+kernel) rfl a_,uQ!,fC (.int 1000),uR!,Ge (fT (f2 (Ug false) aY! (fC (.tup [dH!,m9_])))) (Bc (Au (Ac i9_ (Ac aA_ (Ac (f2 Bo uM! eE_) (Ac (f2 Cu (f2 Bo (f2 Bz N! (fC (.int 48))) (fC (.int 2000))) uQ!) Ag)))))) Cj,uS!,Cd 11 (f2 An (Fv 1 [] (Ei C_) L! aV_ (Au gB_)) (Dr (Ac (Au (Ac G! (Ac (f2 An w_ (f2 Bo N! nw_)) Ag))) Ag))),uT!,bG T.T8 T.V0 n_,uU!,X.N[j]?=some x,uV!,f2 An w! (f2 De (fC (.int 7)) aA_),uW!,oV u_ (hV bW! bW! uJ),uX!,Uc 4 bZ! (f2 An (Ln 4 bZ!) w_),uY!,Cd 9 (Np (f1 Jx (Ac q! (Ac (f2 An uV! w_) (Ac D_ (Ac nw_ Ag)))))),uZ!,fF aF_ cB mY_ aR u!,u0!,eval b X.env,u1!,fT (f2 Ks D_ G!),u2!,Zg (Wi 1 D_ C_),u3!,.tup [bC_,m7!],u4!,wT (w2 bp! (wl gr_) u3_),u5!,aC (fF oJ oQ S! dD u!),u6!,fT (f2 Ji S_ gH!),u7!,fT (f2 Er u6_ C_),u8!,cJ (lL T) d_ n_ eT_,u9!,f2 Aj N! aA_]
def z'uu:String:=z [ua_,λ_ _ q=>HU _ q,ub_,(by rw[HY];omega),uc_,As ub! Jr Bp,ud_,f1 (Bu t) a8_,ue_,.lst (xs++zs),uf_,Am 2 (Da 1 [0] (Fz gx!) L! (wT (Ao 2 (Gr t) (Ab t_ aX_))) l!),ug_,bY cO eF rfl T.R4 dY gk_,uh_,["check","part"],ui_,Heap.SameBut a s.heap h',uj_,Ao 2 (Jj t) ng!,uk_,Am 2 (Ao 1 (Ez t) aX_),ul_,starEach [e] X.env,um_,starEach [e,f] X.env,un_,cJ (gZ T) d_ n_ (aE dM! aO),uo_,ns.map WData.int,up_,Ab l! (Ab t_ dI_),uq_,w2 Ce (Bd t.B6 "numbers_of" 2 (Dk t) uq! bX_) D!,ur_,Da 1 [0] (Ph c3!) L! gz_ (Ao 2 (Es t) (Ab t_ aX_)),us_,Bc (f2 Aj q! (f2 Bo w! dF_)),ut_,fT (f2 Bb gr_ (fC gt_)),uu_,Au (Ac bq! (Ac i7_ dL!)),uv_,kA (i:=2) (NL:=bm_) (NF:=ar_) (ix:=[0]) dL.nd rfl a_ rfl c! j_ (cE (sc:=Ae Em) rfl j_) uu! c! rfl (iA gz!) (λ_ _ _ _ _=>bH (i:=0) (show([bU!,R!]:List Str).Nodup by decide+kernel) rfl a_) aG! (λ_ _ _ _ _=>xQ (fR (aU (nI T) d_ rfl (aE v! b1!)))) i6!,uw_,f2 Bo (f2 Bz w! (f2 An w_ (f2 De az_ q!))) (fC (.int 41)),ux_,f2 Aj C_ uw_,uy_,(∀(s:Shared) (u:Value),BindsTo s fd ji_ [(x,u)]),uz_,Cd 5 (f1 Ia bD_),uA_,Xf K x qual st f fd,uB_,Cd 7 (f1 Cz (Ac (f2 An S_ (fC (.lst jj_))) (Ac (f1 Bn (Ac q! (Ac (f2 An w! aM_) Ag))) Ag))),uC_,K.lookup f=some ⟨oc,od,.func ns_,dt⟩,uD_,fC (.int 12),uE_,.inl (.inl (e _ _ h)),uF_,Ge (fT (f2 Bb aY! (fC eK!))) (Bc (Au (Ac aY! (Ac (f1 Cz (Ac S_ ns!)) nt_)))) Cj,uG_,aS aN bE S! (aS jY jZ aB aX!),uH_,Ge (fT (f2 Bb aY! (fC i8_))) (Bc (Au (Ac aY! (Ac aA_ (Ac (f1 Cz (Ac S_ (Ac (f1 Bn (Ac q! (Ac (f2 An w! az_) Ag))) Ag))) nt_))))) Cj,uI_,rA (i:=5) c! c1! q_,uJ_,Cd 10 (f1 Cz (Ac (f1 Lm bD_) (Ac (f1 Bn (Ac q! (Ac (f2 An w! eE_) Ag))) Ag))),uK_,ForInStep.yield ((name,a)::r),uL_,ForInStep (List eS_),uM_,(by simpa using hk),uN_,Ge (Co (fT (f2 Bb aY! (fC dH!))) (fT (f2 Ap dO! ct!))) (Bc (Au (Ac aY! (Ac aA_ (Ac dO! (Ac (f2 An w_ (f2 Bo uM! (f2 Cu eB_ (f2 Aj dO! aM_)))) Ag)))))) Cj,uO_,λp hp=>hn p jl!,uP_,aE co! (aE bb_ aO),uQ_,nR cells r _ x h,uR_,cE (sc:=Ae Ng) rfl j_,uS_,Bc (Au (Ac aY! (Ac (f1 Cz (Ac (Aa 11) ns!)) Ag))),uT_,cH N_ bI uT! v! q_,uU_,∀b∈fp,b<J_,uV_,Cd 7 (f1 Bn (Ac q! (Ac uV! Ag))),uW_,Cd 8 (f2 Bo bZ_ az_),uX_,Uc 5 bZ! (f2 An (f2 An (Ln 5 bZ!) w_) (f2 Bo (f2 Bz bZ_ az_) az_)),uY_,Rq 3 (Au (Ac (f2 Aj (fC (.lst [F_,(.int 5),gF!])) bZ!) (Ac (Ln 4 bZ!) (Ac (Ln 5 bZ!) (Ac aY! Ag))))),uZ_,nJ (eO (aP (lJ T) d_ rfl bV_ as_)),u0_,Am 3 (wl (Np mU!)),u1_,fT (f2 AS (Au (Ac (f2 Aj (Ln 1 jo!) aM_) (Ac (f2 Aj (Ln 1 jo!) G!) Ag))) (Au (Ac eI! (Ac bq! Ag)))),u2_,ForInStep.yield ok,u3_,wl (fC u3!),u4_,Bx t_ tG! (wl (f2 Bb gr_ i3_)),u5_,Fz (w2 Ce l! jp!),u6_,f2 Aj (f2 Aj N! S_) w_,u7_,Am 5 (wl (f2 An S_ w_)),u8_,fT (f2 Ap D_ ct!),u9_,Au (Ac D_ bD_)]
def z'v:String:=z [va!,fT (f2 Bb u9! u9_),vb!,Am 5 (wl (f2 An aA_ w_)),vc!,Ac (Au (Ac w! bD_)) Ag,vd!,Fd N! eV! Aw,ve!,([]:List (Str×Value)),vf!,Am 3 (Da 1 [1] u5_ L! (Dd (fT gJ!)) (wl gf_)),vg!,As (Dd (Cr (λρ=>((D_) ρ).bind Vl))) eV_ Bp,vh!,wl (fC (.tup [mR_,gg_])),vi!,I8.pin (b,o) r2!,vj!,fT (f1 At dL!),vk!,f2 Aj w! az_,vl!,Am 4 (Wb gJ_ (wl (f2 Bb i7_ iR!))),vm!,Bx nF_ aN! (Qy (Ab aO! (Ab aO! (Ab aO! m2_)))),vn!,X.env.kindOf y.1=some .cell\/X.env.kindOf y.1=some .free,vo!,∀cl C ao bf fp,PE b2! d6 te,vp!,cX (ar Y s Z H _ I h) λv s1 J=>cX J λut s2 h2=>?_,vq!,f1 Bi (Ac S_ Ag),vr!,⟨JF (IW hb hC),JF (IW hb hD)⟩,vs!,λb o hb e=>(cm.2 b hb).trans e,vt!,.inr (JM I2.sz hC),vu!,λx c h=>(vt_).1,vv!,∀a vs,Fh K H a vs->Fh K H' a vs,vw!,Bx bG! c2_ (wl (f2 An (f2 An (Fd S_ Aw (Av aA_)) bZ!) (Fd S_ (Av aA_) Aw))),vx!,f2 Aj w! aM_,vy!,λ_ _ q=>e.seq q,vz!,Bx bG! c2_ (Da 1 [9] (Ja (Ei S_)) L! gz_ (Rm (Ab (wl aE_) (Ab (wl gf_) (Ab (Ka (wl eC_) (w2 na_ (wl aE_) t_)) Af))))),vA!,Eb jp! nb_ (Eb nD! Gm (Eb jr! Gm My)),vB!,Am 2 (Ao 1 Lu aX_),vC!,some (.Name xC cp),vD!,Kl (wT (Hs D! (wl (Au vC_)) (wl (fC ab!)))),vE!,Bq (Ao 2 Vf m1_),vF!,f1 Jn (Ac q! (Ac w! dL!)),vG!,r.mono (iH h),vH!,Da 1 [] jq! L! gz_ (wl eC_),vI!,f1 Ry (Ac (f2 An D_ vI_) Ag),vJ!,⟨v,J,h2.mono x.g⟩,vK!,AR t.NotThere "refused",vL!,b0b rfl rfl rfl T.R3 cI rfl T.U1,vM!,Ac q! (Ac s4_ Ag),vN!,aS lF lN aH_ aB,vO!,Ac q! (Ac (fC (.int 61)) Ag),vP!,iA (aU (lM T) d_ rfl b1!),vQ!,Zj X.K own f,vR!,Am 7 (wl (f2 Cu (f2 Bo (f1 Jy (Ac q! (Ac (f2 An (fC (.int 32)) nL!) Ag))) (f2 Fi (fC mP!) (fC (.int 20)))) uQ!)),vS!,Am 9 (Ka (w2 bp! cn! (w2 Ce dK! nD!)) (wl (Bm Ie Ie G! aA_ az_))),vT!,Ab D! (Ab cn! (Ab jw_ Af)),vU!,Am 12 (Ao 3 Pf (Ab aN! (Ab (wl (fC gF!)) (Ab (wl (Au (Ac i9_ (Ac S_ (Ac aA_ nt_))))) Af)))),vV!,Am 3 (wl (f2 An D_ (Dr (Ac (Aa 12) Ag)))),vW!,As (Zh (wT (w2 Vr (Ao 4 (Qm t) (Ab D! (Ab cn! (Ab jw_ (Ab (wl bZ_) Af))))) (wl dO!))) (wT (w2 Vr (Ao 2 (Se t) (Ab D! (Ab vV_ Af))) (Ao 1 Ef gn_)))) eV_ Bp,vX!,(∀b,M0 b≠none->M b=M0 b),vY!,a9y ho ha.ok hb.ok,vZ!,b0a hr ha.ok hb.ok hs,v0!,λx H'=>∃k,x=.bl k/\Q k H',v1!,dn.map λo=>nO_,v2!,(∀b,M0 b≠none->M' b=M0 b),v3!,⟨b5k h.ok⟩,v4!,b5l ha.ok hb.ok,v5!,c5d ha.ok hb.ok,v6!,aP gA! d_ rfl v5_ ag_,v7!,b6m ha.ok hb.ok,v8!,λv G2 H2 s2 r2=>k v G2 H2 c9! r2,v9!,c5f ha.ok hb.ok]
def z'vv:String:=z [va_,Dd (Co u8_ va!),vb_,[⟨tg,iter,db,0⟩],vc_,f2 An (Fd N! Aw eV!) (Dr vc!),vd_,([]:List Value),ve_,(λv z=>by cases z),vf_,cH N_ bI nB! v! q_,vg_,λ_ _=>False,vh_,Ab l! (Ab D! bX_),vi_,Kl (wT (Ao 3 Lx vh_)),vj_,Bq (Ao 4 Ip nD_),vk_,Ac t0! (Ac tZ_ Ag),vl_,Bx bG! aN! nb_,vm_,Bq (Ao 4 Ip (Ab l! (Ab aN! (Ab (wl (Mw (fT N!) i7_ (fC gg_))) (Ab i8! Af))))),vn_,∀cl C ao bf fp,Pc b2! db tt,vo_,Yr NL.length ix wi g tt te,vp_,Bx (w2 Ce nF_ c2_) i8! (wl bp_),vq_,Ja (Fj vq!),vr_,f2 Bb (f2 Aj (f2 Aj S_ bZ_) G!) eI!,vs_,As (Dd (fT vr_)) (Am 6 (wl (f2 An bZ_ w_))) Bp,vt_,ez c (pz x c h),vu_,λx c h=>(vt_).2,vv_,∀a h1,Rd H a dC_->Rd H' a dC_,vw_,Al.map ht hl hd xs vs r,vx_,λ_ _ q=>bT e q,vy_,λ_ _ q=>a9m e q,vz_,⟨a,vs,rfl,h,r⟩,vA_,Am 1 (On vA!),vB_,wT (w2 na_ (wl (f2 Aj nb! G!)) u3_),vC_,Ac ua! (Ac (f2 Aj D_ w_) Ag),vD_,bG T.T7 T.V6 n_,vE_,aU (oN T) d_ rfl b1!,vF_,Da 1 [2] (Ja (Ei vF!)) L! (Dd (fT nA_)) l!,vG_,Ab cn! (Ab aN_ Af),vH_,f1 Bi (Ac (Fv 1 [1] eI_ L! (fT gJ!) q!) Ag),vI_,fC (.lst [F_]),vJ_,oR hX (fI T) d_ rfl vK_,vK_,aE n_ (aE v! eT_),vL_,Z[i]?=some b2_,vM_,Am 1 (Ao 4 (Pg t) (Ab l! (Ab aO! (Ab (wl (fC gF!)) (Ab (wl (f2 Bo (f1 Bn vM!) (fC gC!))) Af))))),vN_,aM aH aL (rA (i:=1) c! vN! q_) aB q_,vO_,Am 5 (wl (f1 Cz (Ac (f1 Ia dL!) (Ac (f1 Bn (Ac q! (Ac (f2 An (fC (.int 30)) nL!) Ag))) Ag)))),vP_,Am 6 (wl (f2 Cu (f2 Bo (f1 Bn (Ac q! (Ac (f2 An (fC (.int 31)) nL!) Ag))) (fC (.int 7))) w_)),vQ_,⟨λY s Z H Q I ⟨G,ρ,d,er,e,k⟩=>h Y s Z H Q I nM!⟩,vR_,∀Z G H Q ρ d,OR X.K own G H Z ρ->ft ρ=some d->(∀G' H',Cc G H G' H'->Q d H')->t Z H Q,vS_,Am 10 (Zi gN_ (w2 Ce (w2 Ce (w2 Ce dK! jr!) cn!) jw_) nN_),vT_,Ao 3 (Jo t) vT!,vU_,Am 10 (wl (Fd (Aa 12) Aw cY_)),vV_,Uo m2_ (wl eB_),vW_,Am 11 (w2 Ce nM_ jr!),vX_,w2 Ce (w2 Ce (wl (Aa 11)) cn!) jw_,vY_,b0e ho ha.ok hb.ok hm,vZ_,a9t ho ha.ok hb.ok hm,v0_,⟨d,rfl,nP!⟩,v1_,.ref t.NotThere,v2_,⟨a9q h.ok⟩,v3_,aS eB eC (aP gA! d_ rfl (aD B_ nu!) ag_) aB,v4_,⟨G1,ρ,d,c8!,e,λG2 H2 s2=>k G2 H2 c9!⟩,v5_,aD B_ (aD (aS aN bE aB (aS jY jZ aB ba_)) aK),v6_,⟨b6i h.ok⟩,v7_,λv G1 H1 s1 r1=>?_,v8_,k _ G1 H1 s1 Aq.bl,v9_,aU (a3h T) d_ rfl eM!]
def z'w:String:=z [wa!,cH N_ bI jr_ aI! q_,wb!,uA hc.ok ha.ok hb.ok,wc!,aU (uG T) d_ rfl (aE H_ (aE co! (aE jB! aO))),wd!,s1.trans (Cc.laid s1.sub hp),we!,(k'.map c_).Nodup,wf!,Xp X.K ps.length g,wg!,∀ρ ds,fs ρ=some ds->f_=R_,wh!,IM (f:=c_) z,wi!,(by rw[KH];decide),wj!,.obj t.B7 nX_,wk!,k _ G H aJ! Aq.str,wl!,(K.f _).symm.trans qz,wm!,k _ G H aJ! (hg _ _ G),wn!,λ_ j=>decide (0<j)&&decide (j<1073741824),wo!,λi j=>decide (0<=j)&&decide (j<=1000000)&&decide (cR!<2 ^ 64),wp!,k v G H aJ! h2,wq!,[.int a,.int b],wr!,s4.trans jD_,ws!,⟨_,h.mem.mpr aj_,rfl⟩,wt!,(λxs H Q=>∃x n,xs=[x]/\AG K x H n/\Q f5_ H),wu!,if y=n then[]else W.txt y,wv!,i=f_->af.stop i H',ww!,⟨dT_,λhi=>by rw[IP,NJ]at hi;exact OP hi.symm⟩,wx!,oF gW! (ad (.dir true)) (ad (.dir false)) (ad .nums) n9! (ad .hid),wy!,⟨cV (by rw[<-aI az];omega),?_⟩,wz!,((oa_).mono x3.g).mono x4.g,wA!,⟨by rw[s];exact JM ty.1 hB,by rw[s];exact ty.2⟩,wB!,λx0 x1 x2 x3 x4=>(he x0 x1 x2 x3 x4).ok,wC!,λaf G1 H1 x1 fg=>?_,wD!,DS X own bc st q1,wE!,h.inj _ _ l' hd z,wF!,(by rw[e1];exact hb),wG!,∀c,O c->M' c=M c,wH!,λj d q n=>?_,wI!,(λb u e=>by rw[aY (hG e)];exact s.or.sub b u e),wJ!,.nx (ρ.set i (some (.lst (ds++[d])))),wK!,.Call (.Attribute bf_ "append" ay) [e] [] ai,wL!,mup_ne (JE p2),wM!,∀a p,(a,p)∈W.rows->rk p<rk a,wN!,DE X own ix fx,wO!,(∀p,aZ!∉W.rows),wP!,λz=>r1 (q.mpr z),wQ!,λi hi p e=>?_,wR!,Xf K x qual st ag fd,wS!,F.ok S wR_ (λah A outer s H vs Q E hr h=>?_),wT!,if x=i then l else W.txt x,wU!,tV I xs ys vs n n' rr bz,wV!,Km (setT W i l'),wW!,(by rw[HY,HY,<-h3,<-h4,<-J,<-h2];simpa using hl),wX!,a2t I _ _ _ n n' r r',wY!,setT W i (cutT wW_ cz!),wZ!,⟨.bl _,H,I,rfl,q⟩,w0!,Bm g g' fa fb fc,w1!,⟨G,ρ,x,er,e1,λv G1 H1 s1 r1=>⟨G1,ρ,y,c8!,e2,λw G2 H2 s2 r2=>hg s2.sub gP! r2 e3 λt G3 H3 s3 r3=>?_⟩⟩,w2!,(r2.mono s3.g).mono s4.g,w3!,(or!).map λk=>z+cb_,w4!,∀x∈W.its,s∉(da!).map c_,w5!,p.mem_iff.mp hq,w6!,(bf!).sl i false l,w7!,ha.ok Y s Z H _ I h,w8!,mixKind X.prog X.w,w9!,Ok X.prog X.w X.K X.mg X.base k x ps g]
def z'ww:String:=z [wa_,k _ G1 H1 s1 Aq.bl,wb_,dA h.ok hs.ok hst,wc_,(by rw[<-aI r1];exact eY hl),wd_,s1.sub.free hp,we_,oH hc hg hm hv ha.ok hn a8 he ax,wf_,(aD_).length=R_,wg_,∀ρ ds,fs ρ=some ds->f_=n,wh_,(by rw[JA];omega),wi_,(by rw[IF h];rfl),wj_,Kj t M r f p xs,wk_,(∀b,b≠f->b≠p->M' b=M b),wl_,∀i j H,Aq K H bm! (gv i j),wm_,λ_ j=>decide (0<j),wn_,(mup_ne h.ne).trans mup_same,wo_,.bl (Qz i j),wp_,Ad->Option nZ!,wq_,[.int a,.int b,.int c],wr_,u'++[c9_]++v,ws_,λa z=>(by subst z;cases e2),wt_,.builtin "all",wu_,(∀d,ds[i]?=some d->af.go i H'/\∀x gr,af.yld i H' x gr->∃sf,Cc G' H' sf gr/\Aq K sf d x),wv_,("numbers",.fn a4),ww_,List ap!->Prop,wx_,Zz K 2 (Tn eo_ (Tn (No j) AA)),wy_,MR P w K M' G' H',wz_,List D->Mh->Prop,wA_,Zj X.K [] ft,wB_,b0d cj cf jz gw cap calm ar.ok hg hi wB! hs,wC_,CW X.K G0 F0 own ae f,wD_,.Assign [cv!] e pos,wE_,tY hN hi hx h.ok hs hf,wF_,⟨G',ρ,r,er.grow x',e2,k⟩,wG_,s.or.sub.trans w4,wH_,λz=>absurd z.symm cy,wI_,.inr (.inr ⟨fJ!,rfl⟩),wJ_,[e].length+(dM_).length+eO!<30,wK_,dA h.ok fP hst,wL_,ρ.set i (some (.lst (ds.set k d))),wM_,.Subscript bf_ ix p2,wN_,jX hN w5 hd bv,wO_,λiv G2 H2 x2 r2=>?_,wP_,(x.trans x2).h _ _ h3,wQ_,Cc G0 F0 G1 H1,wR_,λvs H Q E h=>h.1,wS_,hb ah A outer s H E hr,wT_,⟨er,Cc.refl sub,au!⟩,wU_,(by unfold Az at h;exact h),wV_,(List.range (min us.toArray.size oo_)).all (λj=>Eh on_ oo!)&&jX!==oo_,wW_,g++[.tup g3!],wX_,mup M (ad .hid) (.dct (Bg k6 g4_ B!) (Hc k6 g4_ e6)),wY_,A.units+Gx d<cLine,wZ_,⟨dx,dy,rx.mono sub,ry.mono sub,h.1.1,h.1.2,h.2,dT!⟩,w0_,(by rw[show B+(js.length+1)=B+1+js.length by omega];simpa using h'),w1_,⟨bb,rfl,?_⟩,w2_,ng.trans (s4.trans s5),w3_,.bl (if neg then !(ds.any λd=>Eh d x)else ds.any λd=>Eh d x),w4_,L2.Key×Value,w5_,(by rw[hl];exact z),w6_,λY s Z H Q I h=>?_,w7_,⟨q,.inl z,h⟩,w8_,b8n (k:=ot_) r1,w9_,List D->Option D]
def z'x:String:=z [xz!,Addr,x8!,Around,xT!,Value,xa!,[aR_,aR!,.int (k':Nat)],xb!,x.cps.toList.map λc=>.str at!,xc!,λi _=>fa_<=i,xd!,⟨(KU.mp hc).1,λv gr hy=>?_⟩,xe!,⟨_,_,_,rfl⟩,xf!,.int (k0:Nat),xg!,hI.inj _ _ l hi z,xh!,ys.map V.str,xi!,ys.map (·.length),xj!,setT W i (U++ox_::v),xk!,backTo ai (starEach [a] X.env),xl!,λw G2 H2 s2 r2=>?_,xm!,if i∈W.its then setT W i (wrT b g7_ cz!)else W,xn!,Builtin.SmallTypes.nextOf (.ref jt),xq!,fo ρ=some ai_,xr!,firstArgMember _ _,xs!,show A.in1.handled=none from hh,xt!,HP (wpAny_throw ?_),xu!,((dY!).extBut.push _).push _,xv!,xs[k1]?=some x,xw!,Builtin.«zip.__next__» ⟨[.ref z],[]⟩,xA!,LJ gz b_ λJ lj b9=>?_,xB!,Aa 1 ρ=some x,xC!,g8.extBut b9.extBut D.l1z,xD!,b9.extBut _ _ D.TOz gO,xE!,m1 _ (h.lv (q:=.ob) trivial),xF!,bX (bX (bX g2 b9.extBut D.i2z) bn.extBut D.i12.symm) df.extBut D.TOi2.symm,xG!,((iw.extBut b9.extBut D.l2z).extBut bn.extBut D.l2i1).extBut df.extBut D.l2TO,xH!,old .ob trivial,xI!,m1 _ (h.lv l),xJ!,b9.extBut _ _ c1 x,xK!,(by rw[<-z.1,<-z.2];exact l),xL!,⟨_,gz,rfl⟩,xM!,⟨U_,U_,U_⟩,xN!,CT s.heap l1 l2,xO!,(λ(r:Fl) (M':Mh)=>match r with|.rt d=>R d M'|.nx _=>R .non M'),xP!,[e5_,cB!,some a,dd!,some pl],xQ!,⟨fz.2.2.2.1,fz.2.1,fz.2.2.2.2.1,fz.2.2.2.2.2⟩,xR!,⟨fO.2.2.2.1,fO.2.1,fO.2.2.2.2.1,fO.2.2.2.2.2⟩,xS!,⟨f1.2.2.2.1,f1.2.1,f1.2.2.2.2.1,f1.2.2.2.2.2⟩,xU!,λc o _ _ _ e _=>e,xV!,λc o hc e n=>?_,xW!,λ_=>Iff.rfl,xX!,(λc o u e=>by rw[oK_];exact e),xY!,IF λz=>c1 z.1,xZ!,(λz=>by cases z;exact .inr aE!),x0!,(λd q=>by rw[oL_];exact q),x1!,bootBuiltins "zip"=some oE!,x2!,(backTo pos (starEach [b] X.env)).any c_=false,x3!,.Call (.Name "zip" p) al! [] pos,x4!,(bf!).sl p0 true (Ho hd! p0),x5!,⟨G,ρ,_,er,e1,λv G1 H1 s1 r1=>⟨G1,ρ,_,c8!,e2,xl!⟩⟩,x6!,⟨_,_,rfl,rfl,dT!⟩,x7!,cs.map λ_=>true,x9!,W.nsIn K mainGlobals x=some eu_]
def z'xx:String:=z [xa_,λi _=>i<fa_,xb_,setT W i (U++(ou_).map dX!++v),xc_,∀i h,St' i h->∃o,h.get? it=some o/\∀v,o.data≠.cell v,xd_,λi h=>i<=fa_/\St' i h,xe_,.fn (ad (.row i false)),xf_,λi h st=>SY _ i h st,xg_,mup M1 n9! (.dct (Bg k5 bK_ gs_) (Hc k5 bK_ e5)),xh_,(D.tup j4_,D.str at!,true),xi_,.str (Txt.join z ys),xj_,(by rw[hl,IZ];exact IT _ z),xk_,[a].length+(dM_).length+eO!<30,xl_,s.heap.IsTupleIter jt tt n,xm_,s.heap.IsTuple tt xs,xq_,Obj.cls_mapFields ..,xr_,(by first|rfl|(simp only[firstArgMember];rfl)),xs_,wpAny_handled ?_,xt_,∀q,Jp V' q->Jp V q\/N q,xu_,∀q,N q->M (bd q)=none,xv_,ys[k2]?=some y,xw_,(λfin s'=>∃v,fin=.done (.ret v)/\Q v s'),xA_,Aa 0 ρ=some jR!,xB_,bX g1 b9.extBut D.i1z,xC_,zZ xB_ xC! gx λh2 SZ bn=>HP ?_,xD_,LV sm rfl ?_,xE_,RT sm λh3 u8 df=>?_,xF_,(by rw[z]at l;exact l),xG_,q=.row x b\/q=.fol x b\/q=.pre x b,xH_,df.extBut _ _ D.TOz.symm (bn.extBut _ _ D.i1z.symm lj),xI_,xs[k1]?=none\/ys[k2]?=none,xJ_,(V.sl x b []).ls x b,xK_,F.entry_zip_next,xL_,F.args_zip_next_1 _,xM_,hy.resolve_right c,xN_,CS s.heap l1 l2,xO_,CU s.heap l1,xP_,(by rw[a3a];have:=r1.2;omega),xQ_,Ho W.rows pl,xR_,(((({Km W with pr:=λa p=>((bf!).pr a p/\a≠n)\/(a=n/\p=pl)}:Ix).sl pl true (Nk n b xQ_)).nw n true).nw n false).nn n fc_,xS_,⟨f2.2.2.2.1,f2.2.1,f2.2.2.2.2.1,f2.2.2.2.2.2⟩,xU_,λc o _ _ _ e _=>uH!,xV_,λc o _ e=>⟨o,e⟩,xW_,(λc xs e=>by rw[oK_];exact e),xX_,λc ps e=>⟨#[],by rw[oK_,e];simp⟩,xY_,hg.chl_same w.rnd,xZ_,I1.hok c o e,x0_,X.mg "zip"=none,x1_,starEach al! X.env=dy_::starEach [b] X.env,x2_,ad (.row p0 true),x3_,[e5_,G_,bJ_,b6!],x4_,jQ w.rnd z gf,x5_,(λx y H Q=>Rs (λi j=>.bl mr!) x y H Q\/∃i j,x=.str i/\y=.str j/\Q wo_ H),x6_,cs.map λ_=>D.bl true,x7_,(ke!).any λd=>Eh d aS!,x9_,W.fnOf x x jk! bs! bc! .none kV bq pm an ah ct]
def z'y:String:=z [yO!,World,ya!,K.lookup f=some ⟨oc,od,.func x9_,dt⟩,yb!,∀(kV bq pm:Value) (an:aG_) (ah ct:Value) (us:g_),aq_=R_->bindArgs x9_ cX_=pure cW_,yc!,rows.map (Zn w),yd!,(λz=>by simp at z),ye!,[kf_,a,b,dX_],yf!,fs.map V.ref,yg!,λy=>NameG y,yh!,(show v=.none from hx),yi!,.lst (.str "root"::ys),yj!,Mb ks k=some j,yk!,[av!,oU_,yj_,y],yl!,Option Nat->Shared->Prop,ym!,s.heap.get? d=some o,yn!,o.data=.dict es ep,yo!,[none,some f5_,some oY!],yp!,letters.cps.toList.length,yq!,ar=none/\rest.find? dg!=Mb ks k,yr!,sSeq Yf (sSeq dq14 dq15),ys!,(by rw[<-e];exact q1),yt!,Dh its fl! none++Dh its none fl!,yu!,Dh its none fl!,yv!,Nat.ble ds.length 1000=true,yw!,IB (Nat.le_of_ble_eq_true hl),yx!,sU ho hc hd (by simp[Yb]),yy!,MV (s:=d1!) ho hd ?_,yz!,Builtin.Dict.takeOut a u,yA!,(by simpa using au),yB!,bS (g:=Ug false) (x:=.str k) rfl rfl (in2 k "cut" "set"),yC!,(by rw[cz,i1];rfl),yD!,.ins C dx vs,yE!,MR P w K M1 G1 H1,yF!,fin _ ((aB_).trans ((aB_).trans ((aB_).trans ((ko_).trans (vp j_ j_ j_ j_))))),yG!,a∈W.its/\Ig W b/\¬Wn W.rows a b,yH!,wrT b hk_ av_,yI!,Yn X.prog X.w X.K own f,yJ!,⟨λY s Z H Q I ⟨G,ρ,M,R,st,e,k⟩=>h Y s Z H Q I o5_⟩,yK!,D.tup b8!∉pre,yL!,pre++[.tup b8!],yM!,(n4!).resolve_right e,yN!,Si X.prog X.w X.K own G H Z ρ M,yP!,(List.range m'.toNat).map λk=>.tup j2!,yQ!,k _ M1 G1 H1 r1 x1 m1,yR!,k _ M1 _ G1 H1 r1 x1 m1 Aq.bl,yS!,ft ρ=some false,yT!,⟨J,h2.mono (Ba.refl G) (aY hb)⟩,yU!,λJ h2 z q=>?_,yV!,.dct o2! (Hc h1 d ep),yW!,kget h1 d=some x,yX!,k="undo"\/k="redo",yY!,⟨_,rfl,JW h⟩,yZ!,.builtin "dict.get",y0!,⟨o,rfl,h ho⟩,y1!,Builtin.Dict.keyAndDefault,y2!,(a.map Op.key).Nodup,y3!,λx=>Bb x aS!,y4!,(show pd_=true by decide+kernel),y5!,Jb .str os A,y6!,.nx [Z!,af!,y'],y7!,((Aj o.v bo!).bind λx=>Aj x a9!)=_,y8!,mup M p (.dct (Bg acc a P!) (Hc acc a ep)),y9!,λM' bg y' J h2=>hR M' bg y' y8_ h2]
def z'yy:String:=z [ya_,W.codeIn K ah x=true,yb_,(n::r).map D.int,yc_,(Sum.inr r.1:L2.Key)=Sum.inr y,yd_,Sum.inr.inj z,ye_,⟨rfl,rfl,rfl⟩,yf_,fs.map Value.ref,yg_,⟨_,_,rfl,b1,b2,b3,b4⟩,yh_,(if kg_<=big then Option.map D.lst (Dz _ _ _ de! ops)else none)=_,yi_,QH hT OG.lookup ?_,yj_,some (.tup [.int h',aR!,.int tm,.tup ye!]),yk_,List.filter_sublist,yl_,Ny P w s.heap es ks,ym_,dictWalkPlain d u dg_ es kj!,yn_,(by simpa using hne),yo_,λe=>hh (by rw[q3,e];simp),yp_,ks[i]?=some k',yq_,[some f5_,bh!,some oY!],yr_,sSeq CH (sSeq AC yr!),ys_,[ae_,ao_,av!,bh!,none,none,none,none,none,none,none,none],yt_,Dh its fl! none,yu_,pK (s:=d1!) hu x hk ho hd ?_,yv_,if f_<=1000 then _ else _,yw_,dictSet a u v,yx_,[b6_,.int base,.lst ops,.int most],yy_,es.eraseIdx j,yz_,("cut"==k||"set"==k),yA_,.tup [fh_,item,.int (m0 / 12%4),.int (m0 / 48%2000 - 1000)],yB_,a3q rfl rfl e1,yC_,(by unfold Co;rw[pL rfl (LW _)];rfl),yD_,Gw P w K G H a c,yE_,(by rw[hM];simp),yF_,⟨?_,h2.mono x.g ?_⟩,yG_,a∈W.its/\Ig W Db/\¬Wn W.rows a Db,yH_,[aR_,aR!,hd_],yI_,(ou_).map dX!,yJ_,∀Z G H Q ρ M R,Si X.prog X.w X.K own G H Z ρ M->ft ρ M R->(∀d M' G' H',R d M'->XM M G H M' G' H'->MR X.prog X.w X.K M' G' H'->Q d H')->t Z H Q,yK_,⟨_,by assumption,h⟩,yL_,hg.winv w.inv hc.1 hc.2.1 hc.2.2,yM_,setT W a yH!,yN_,(match gm M2 x y with|some d=>R d M2|none=>False),yO_,⟨_,rfl,k _ M' G' H' r' x' m'⟩,yP_,⟨G1,ρ,M1,R,kt_,r1,λd M2 G2 H2 r2 x2 m2=>k d M2 G2 H2 r2 b8_ m2⟩,yQ_,λv hv q hq=>?_,yR_,ft ρ=some true,yS_,Cc.laid x1.sub hp,yV_,∀a7 s',Inv X Y Z kx! s'->Gw X.prog X.w X.K G kx! a yV!->Q () s',yW_,(by rw[JC];exact c),yX_,λx hx=>h x cB_,yY_,k="undo"\/k="redo",yZ_,.tup [ky_,hp_],y0_,∀a,k' (f a)=k a,y1_,a1q I J D' cm h4 ?_,y2_,KS fin (λold s' ⟨e1,o,q1,q2,q3⟩=>?_) λ_ _ z=>z,y3_,OK (HP ⟨_,rfl,q3⟩),y4_,(show pe!=true by decide+kernel),y5_,Jb .str os acc,y6_,⟨trivial,hR M ep y hp λb _=>rfl⟩,y7_,rQ (A:=X.A) a! I m sub e ⟨_,r,rx⟩ hk λs' I'=>HP ⟨.bl _,H,I',rfl,q⟩,y8_,(by unfold Jb;rw[hu];exact J),y9_,λo ho=>hd o (bx.mem_iff.mp ho)]
def z'z:String:=z [z7!,Program,z6!,Shared,zY!,W.Frag,za!,(by rw[bx.length_eq];simp;omega),zb!,field Y! 2>>=_,zc!,(λx=>by simp),zd!,(pl_).getD .non,ze!,x1.trans kE! m1,zf!,⟨ys,z,rfl⟩,zg!,Addr×List ap!×Nat,zh!,.Attribute o "get" ay,zi!,⟨yv,q2,ry⟩,zj!,hb.run I2 zi_ r2 λz M3 zv G3 H3 jv s3 r3 x3 m3 q3 I3 rz=>NR ?_,zk!,⟨yv,q2.mono x3.g,ry⟩,zl!,((r,.obj t.B7 nX_)::(f,.dct kf ef)::(p,.dct kp ep)::l),zm!,List ap!->Mh->Prop,zn!,[(root,.fn r1),(Db,.fn r2)],zo!,PUnit->Shared->Prop,zp!,([.hid,.wri,.nums,.dir false,.row Db true,.fol Db true,.pre Db true,.row root true,.fol root true,.pre root true,.dir true,.par,.ob]:List Nz),zq!,x=root\/x=Db,zr!,.fol Db true,zs!,.pre Db true,zt!,(λx h=>by cases h),zu!,λj hj p e=>?_,zv!,Cc G kJ! G' H',zw!,IF (λhr=>by rw[(s.root hr).2]at e;cases e),zx!,[_,_,_,_,_,_,_,_],zy!,(by show 3<100;decide),zz!,⟨G,ρ,M,_,sr,e,λρ' M' G' ac H' r dh=>⟨G',ρ',M',R,dh,r,k1,k2⟩,λd M' v G' H' r x m q=>k2 d M' v G' H' r x m q⟩,zA!,(∃yu,Vt W' yu),zB!,[Z!,X_,bi_,some x.v,z],zC!,⟨G,ρ,M,_,sr.st,e,λb M' G' H' r x m=>?_⟩,zD!,(show B+20*(os.length+1)=B+20+20*os.length by omega),zE!,.obj C (Hw x y fs),zF!,λy hy z=>?_,zG!,(zF_).grow x2 m2,zH!,(ops.map Op.nm).Nodup,zI!,[d4_,X_,bi_,none,none],zJ!,(λx _=>by simp),zK!,(by rw[e3,e1];exact hb),zL!,g M x y=some d,zM!,Ab f1 (Ab f2 Af),zN!,Tz X own own body q1,zO!,Pu fa ρ M bl!,zP!,(by show 3<=1000;decide),zQ!,some (.lst (l.map Op.v)),zR!,⟨m7,cx.mr,au!⟩,zS!,∀cl C ao bf fp,Pc b2! db zR_,zT!,Da NL.length ix fi bnd ft fe,zU!,⟨px.or.cap NL.length ix hix,m1,au!⟩,zV!,λds M1 vs G1 H1 r1 x1 m1 q1=>?_,zW!,Ew X.prog X.w X.K X.mg X.base k C m ps g,zX!,λds M2 us G2 H2 r2 x2 m2 q2=>?_,zZ!,[d4_,hz_,none,none],z0!,Vy X.prog X.w X.K X.mg X.base k x C ps g,z1!,BEq.comm (a:=Str.ofString "redo"),z2!,Hc acc u.2 ep,z3!,if _ then _ else e7_,z4!,W.its.map λi=>(i,.lst kT!),z5!,W.its.map λi=>(i,.fn (qa i)),z8!,HP (HM (MY td tf ?_)),z9!,.inr (.inr ⟨i,hi,rfl⟩)]
def z'zz:String:=z [za_,λM' ep y J h2=>hR p M' ep hp J λb hb=>(pj!).trans pj_,zb_,(∀b,b≠q->M' b=M b),zc_,[Z!,af!,bi_,K!,z],zd_,Tu X.prog X.w X.K r g,ze_,[d4_,none,none,none,none],zf_,λi p h=>(by simp[W0]at h),zg_,mup M2 q.1 (.lst (q.2++[v])),zh_,NP (LL (ha.run I1 fr_ r1 λy M2 yv G2 H2 iv s2 r2 x2 m2 q2 I2 ry=>NR ?_)),zi_,(fr_).grow x2 m2,zj_,(bv!).mono x3.g,zk_,⟨zv,q3,rz⟩,zl_,dE s.heap.objs.size [] 0,zm_,MP X own pos keys jp fp,zn_,[(root,.non),(Db,.non)],zo_,mup M c (.dct (acc++h1) (n+ax_)),zp_,ForInStep PUnit,zq_,.fol root true,zr_,.pre root true,zs_,(by rw[JA,LQ];omega),zt_,AM X.prog X.w X.K M0 G0 F0 own ae f,zu_,.obj t.B6 [],zv_,λb o e hb=>?_,zw_,(by show 1<100;decide),zx_,(by show 2<100;decide),zy_,h2.ok M0 G0 F0,zz_,(∀x∈os,x.nm∉pre),zA_,λd M' v G' H' r x m q=>k2 d M' v G' H' r (sr.x.trans x sr.st.mr) m q,zB_,λd M' v G' H' r x m q=>k1 _ M' G' _ H' r ((pw!).set bt q),zC_,h5 q (by rw[ow];simp) vq,zD_,λd M' v G' H' r x m q=>k1 ρ M' G' Z H' r pw!,zE_,mup M2 p zE!,zF_,sr.grow x1 m1,zG_,(by rw[show Op.nm x=Op.nm y from z.symm];exact IM hy),zH_,(∃pre,Vt W' pre),zI_,hp.mem_iff.mp hx,zJ_,(kL_).nodup_iff.mpr nn,zK_,.Subscript o i p2,zL_,.write m3 x3.sub hM,zM_,λd M' v G' H' r x m q=>?_,zN_,Tx ft ρ M true,zO_,ho _ (hi _ ?_),zP_,mup M p (.lst (xs.set i v)),zQ_,((j+1:Nat):Int),zR_,Yn X.prog X.w X.K [] ft,zS_,∀cl C ao bf fp,ME b2! [] d6 fe,zT_,acc.map Op.v,zU_,.int (cF!:Nat),zV_,(by rw[<-aI q1];exact r1.1),zW_,Bd C m ps.length g fo fs,zY_,[d4_,none,none,none],zZ_,mup M1 x pH!,z0_,BEq.comm (a:=Str.ofString "undo"),z1_,Bg acc u.2 fq!,z2_,⟨G,_,M,_,⟨⟨er,m,au!⟩,.refl sub,au!⟩,e.2,λρ' M' G' ac H' r sr=>kk _ M' _ G' H' r sr.x sr.st.mr Aq.non,λd M' v G' H' r x m q=>kk d M' v G' H' r x m q⟩,z3_,(d==sysModules)=false,z4_,s.heap.IsKeyIter it d i es.length ep,z8_,(show¬((i:Int)<0)from by omega),z9_,HP (HM (RM hT ?_))]
end
open Lean in
local macro_rules|`($s:ident)=>match s.getId with|.str .anonymous t=>let c:=t.back;if c=='!'||c=='_' then match (let b:=c=='!';if t.length<3 then if b then z'0 else z'00 else match t.front with|'a'=>if b then z'a else z'aa|'b'=>if b then z'b else z'bb|'c'=>if b then z'c else z'cc|'d'=>if b then z'd else z'dd|'e'=>if b then z'e else z'ee|'f'=>if b then z'f else z'ff|'g'=>if b then z'g else z'gg|'h'=>if b then z'h else z'hh|'i'=>if b then z'i else z'ii|'j'=>if b then z'j else z'jj|'k'=>if b then z'k else z'kk|'l'=>if b then z'l else z'll|'m'=>if b then z'm else z'mm|'n'=>if b then z'n else z'nn|'o'=>if b then z'o else z'oo|'p'=>if b then z'p else z'pp|'q'=>if b then z'q else z'qq|'r'=>if b then z'r else z'rr|'s'=>if b then z's else z'ss|'t'=>if b then z't else z'tt|'u'=>if b then z'u else z'uu|'v'=>if b then z'v else z'vv|'w'=>if b then z'w else z'ww|'x'=>if b then z'x else z'xx|'y'=>if b then z'y else z'yy|'z'=>if b then z'z else z'zz|_=>if b then z'0 else z'00).splitOn ("\r"++t++"\r") with|[_,f]=>do return z'Z (.fromRef (<-getRef)) f|_=>Macro.throwUnsupported else Macro.throwUnsupported|_=>Macro.throwUnsupported
open Lean in
local macro_rules|`(tactic|push_cast)=>`(tactic|show"pc!")|`(tactic|push_cast[$x,*])=>match z't't.splitOn "\rpc!\r" with|[_,f]=>do let s:=(z'Z (.fromRef (<-getRef)) f)[1][1][0][0][0];return s.setArg 4 (s[4].setArg 1 (mkNullNode (s[4][1].getArgs.push (mkAtom ",")++x.elemsAndSeps)))|_=>Macro.throwUnsupported
open Lean in
local macro_rules|`(tactic|show$s:str)=>match z't't.splitOn ("\r"++s.getString++"\r") with|[_,f]=>do let q:=z'Z (.fromRef (<-getRef)) f;let q:TSyntax ``Lean.Parser.Tactic.tacticSeq:=⟨q[1][1]⟩;`(tactic|($q))|_=>Macro.throwUnsupported
set_option hygiene true
open Lean in
def z'N:Nat->Syntax->Syntax
|n+1,.node _ k a=>.node .none k (a.map (z'N n))
|_,.atom _ v=>.atom .none v
|_,.ident _ r n p=>.ident .none r n p
|_,x=>x
open Lean in
local macro_rules(kind:=Lean.Parser.Command.declaration)|x=>if x.getPos?.isNone||x[1].isOfKind ``Parser.Command.theorem then Macro.throwUnsupported else let k:=z'N 9999 x[1];let u:=match k[1][0].getId with|.str _ s=>s.front.isUpper|_=>false;match k.isOfKind ``Parser.Command.definition,(x[0].reprint.getD "").trimAscii.toString,u with|true,"",false=>do return z'N 9999 (<-`(theorem $(⟨k[1]⟩):declId $(⟨.node .none ``Parser.Command.declSig #[k[2][0],k[2][1][0]]⟩):declSig $(⟨k[3]⟩):declVal))|true,"nonrec",_|true,"",_=>do return z'N 9999 (<-`(noncomputable def $(⟨k[1]⟩):declId $(⟨k[2]⟩):optDeclSig $(⟨k[3]⟩):declVal))|_,_,_=>return z'N 9999 x
open Lean in
local macro_rules|`(universe $x*)=>do let p:=`PySem.Challenge;let c:=p.str "cw_manyhands_k22_own_numbers_holds";return mkNullNode (<-(p.str "pw_manyhands_k22_own_numbers"::x.toList.map (λi=>c.str i.getId.toString)++(List.range 826).map λn=>c.str s!"o_{n+43}").toArray.mapM λn=>do return z'N 99 (<-`(noncomputable def $(mkIdent (PySem.W.Fast.stemOf n).1):ident:=0)))
universe env_41 heap_39 heap_46 heap_869 sts_101 sts_116 sts_159 sts_224 sts_254 sts_305 sts_49 sts_511 sts_548 sts_606 sts_686 sts_71 sts_769 sts_846 sts_86 tree_100 tree_115 tree_158 tree_221 tree_253 tree_304 tree_425 tree_47 tree_507 tree_547 tree_605 tree_685 tree_70 tree_768 tree_845 tree_85 tree_868 view_39
local macro_rules|`(tactic|omega)=>`(tactic|first|lia|omega +splitDisjunctions)
theorem z'Hd{G:Prop}(h:∀g:Prop,(G->g)->g):G:=h G λx=>x
local macro_rules|`(tactic|obtain $p:rcasesPatMed:=$e:term)=>do let s:=p.raw.reprint.getD "";if (s.splitOn ",").length>2+(s.splitOn "rfl").length then `(tactic|first|(refine z'Hd λg k=>?_;rcases $e:term with $p:rcasesPatMed<;>refine k ?_<;>clear g k)|rcases $e:term with $p:rcasesPatMed) else `(tactic|rcases $e:term with $p:rcasesPatMed)
noncomputable section
namespace L2
open PySem PySem.Spec PyProof.Rows
abbrev Key:=Sum Int Str
def Qk:Key->Value->Bool
 |.inl k,v=>Value.isInt k v
 |.inr x,v=>Value.isStrOf x v
def CC(w:yO!):Key->Int
 |.inl k=>hashInt k
 |.inr x=>hashStr w x
def bJ:∀{k:Key} {v:xT!},Qk k v=true->(∃i t,k=Sum.inl i/\v=Value.int i t)\/(∃x t,k=Sum.inr x/\v=Value.str x t)
 |.inl i,v,h=>by
  obtain⟨t,e⟩:=Value.isInt_shape (k:=i) (v:=v) h;exact .inl ⟨i,t,rfl,e⟩
 |.inr x,v,h=>by
  obtain⟨t,e⟩:=Value.isStrOf_shape (x:=x) (v:=v) h;exact .inr ⟨x,t,rfl,e⟩
def xY(i:Int)(t:Tok):Qk (.inl i) dp_=true:=by simp[Qk,Value.isInt]
def qR(x:Str)(t:Tok):Qk (.inr x) fF!=true:=by simp[Qk,Value.isStrOf]
def c8g(a b:Int):decide (ld!=Sum.inl b)=fF_:=by
 by_cases e:a=b
 .subst e;simp
 .have h:¬ld!=Sum.inl b:=λq=>e (Sum.inl.inj q);rw[IG h];exact(KN.mpr e).symm
def c8d(a b:Str):decide (le!=Sum.inr b)=decide (a=b):=by
 by_cases e:a=b
 .subst e;simp
 .have h:¬le!=Sum.inr b:=λq=>e (Sum.inr.inj q);rw[IG h,IG e]
def c8f(a:Int)(b:Str):decide (ld!=Sum.inr b)=false:=IG qi!
def c8e(a:Str)(b:Int):decide (le!=Sum.inl b)=false:=IG qi!
nonrec def mixKind(prog:z7!)(w:yO!):PySem.KeyKind prog w Key where
 is:=Qk
 hash:=CC w
 inj:=λv a b ha hb=>by
  obtain⟨i,t,rfl,rfl⟩|⟨x,t,rfl,rfl⟩:=bJ ha
  .obtain⟨j,u,rfl,e⟩|⟨y,u,rfl,e⟩:=bJ hb
   .injection e with e1 _;rw[e1]
   .exact le_
  .obtain⟨j,u,rfl,e⟩|⟨y,u,rfl,e⟩:=bJ hb
   .exact le_
   .injection e with e1 _;rw[e1]
 byValue:=λk v h=>by
  obtain⟨i,t,rfl,rfl⟩|⟨x,t,rfl,rfl⟩:=bJ h<;>rfl
 pyHash:=λhv h=>by
  obtain⟨i,t,rfl,rfl⟩|⟨x,t,rfl,rfl⟩:=bJ hv
  .exact wpAny_pyHash_int h
  .exact wpAny_pyHash_str h
 eqBool:=λhu hv h=>by
  obtain⟨i,t,rfl,rfl⟩|⟨x,t,rfl,rfl⟩:=bJ hu
  .obtain⟨j,u,rfl,rfl⟩|⟨y,u,rfl,rfl⟩:=bJ hv
   .rw[c8g]at h;exact wpAny_eqBool_int h
   .rw[c8f]at h;exact SeqAt.EqAt.int_str i t y u _ _ _ _ h
  .obtain⟨j,u,rfl,rfl⟩|⟨y,u,rfl,rfl⟩:=bJ hv
   .rw[c8e]at h;exact SeqAt.EqAt.str_int x t j u _ _ _ _ h
   .rw[c8d]at h;exact wpAny_eqBool_str h
 «strs»:=λk x t v h=>by
  obtain⟨i,u,rfl,e⟩|⟨y,u,rfl,e⟩:=bJ h
  .exact le_
  .injection e with e1 _
   subst e1;cases v<;>rfl
def a3u(prog:z7!)(w:yO!)(i:Int)(t:Tok):(qj!).is (.inl i) dp_=true:=xY i t
def lS(prog:z7!)(w:yO!)(x:Str)(t:Tok):(qj!).is (.inr x) fF!=true:=qR x t
end L2
namespace L2
open PySem PySem.Spec PyProof.Rows
inductive V where
 |non|bl (b:Bool)|int (i:Int)|str (x:Str)|byt (b:Array UInt8)|flt (b:UInt64)|ref (a:xz!)|ty (n:String)
 deriving DecidableEq
def Bl:V->Value->Prop
 |.non,u=>u=ce_
 |.bl b,u=>u=Value.bool b
 |.int i,u=>∃t,u=Value.int i t
 |.str x,u=>∃t,u=Value.str x t
 |.byt b,u=>∃t,u=Value.bytes b t
 |.flt b,u=>∃t,u=Value.float b t
 |.ref a,u=>u=Value.ref a
 |.ty n,u=>u=Value.type n
abbrev Ax:List V->List Value->Prop:=Paired Bl
def Ax.length{xs:m_}{us:g_}(r:hN_):i_=aq_:=NT r
def Ax.get:∀{xs:m_} {us:g_} {i:Nat} {x:V},Ax xs us->xs[i]?=some x->∃u,us[i]?=some u/\Bl x u
 |_,_,_,_,.nil,e=>by simp at e
 |_,_,0,_,.cons r _,e=>by simp at e;subst e;exact lf!
 |_,_,i+1,x,.cons _ t,e=>by
  obtain⟨u,J,h2⟩:=Ax.get (i:=i) (x:=x) t cI_;exact qk!
def Ax.set{x:V}{u:xT!}(r:Bl x u):∀{xs:m_} {us:g_} (i:Nat),Ax xs us->Ax (xs.set i x) (us.set i u)
 |_,_,_,.nil=>.nil
 |_,_,0,.cons _ t=>.cons r t
 |_,_,i+1,.cons q t=>.cons q (Ax.set r i t)
def Ax.append:∀{xs ys:m_} {us ws:g_},Ax xs us->Ax ys ws->Ax ef_ (us++ws)
 |_,_,_,_,.nil,s=>s
 |_,_,_,_,.cons r t,s=>.cons r (Ax.append t s)
def Ax.take:∀{xs:m_} {us:g_} (n:Nat),Ax xs us->Ax (xs.take n) (us.take n)
 |_,_,0,_=>.nil
 |_,_,_+1,.nil=>.nil
 |_,_,n+1,.cons r t=>.cons r (Ax.take n t)
def Ax.drop:∀{xs:m_} {us:g_} (n:Nat),Ax xs us->Ax (xs.drop n) (us.drop n)
 |_,_,0,r=>r
 |_,_,_+1,.nil=>.nil
 |_,_,n+1,.cons _ t=>Ax.drop n t
def Nt:Option V->Option Value->Prop
 |some v,some u=>Bl v u
 |none,none=>True
 |_,_=>False
def KV{κ:Type}:List (κ×V)->List lg!->Prop:=Paired λ(p:κ×V) (q:κ×Value)=>p.1=q.1/\Bl p.2 q.2
nonrec def kV:Key->V
 |.inl i=>.int i
 |.inr x=>.str x
inductive HO where
 |lst (xs:m_)
 |tup (xs:m_)
 |dK (h1:List (Key×V))|dT (h1:hP!)
 |set (S:Int->Bool) (n:Nat)
 |ins (C dx:xz!) (fs:eg!)
 |own (x:xz!)
 |xd (fs:eg!)
 |met (f x:xz!)
 |rng (lo hi:Int)
 |frz (o:Obj) (u:HO)
 |tbl (ps:I!)
 |ext (φ:Heap->Prop)
abbrev Hp:=Addr->Option HO
nonrec def upd(H:Hp)(a:xz!)(o:HO):Hp:=λb=>if b=a then some o else H b
def bQ{H:Hp}{a:xz!}{o:HO}:upd H a o a=some o:=by unfold upd;rw[A!]
def aY{H:Hp}{a b:xz!}{o:HO}(h:b≠a):upd H a o b=H b:=by unfold upd;rw[IF h]
def cC{H:Hp}{a b:xz!}{o:HO}(h:H a=some o)(h':H b=none):a≠b:=by intro e;subst e;rw[h]at h';cases h'
section
variable(P:z7!)(w:yO!)
def Eo(H:Hp)(h:Heap)(a:xz!):HO->Prop
 |.lst xs=>i_<=sizeLine/\∃(its:g_) (n:Nat),Ax xs its/\h.get? a=some {cls:=.type "list",data:=.seq its.toArray n}
 |.tup xs=>i_<=sizeLine/\∃its:List Value,Ax xs its/\IsTup h a a1!
 |.dK h1=>ax_<=sizeLine/\dq_=false/\∃vs,KV h1 vs/\h.DictOf bj! a vs
 |.dT h1=>ax_<=sizeLine/\dq_=false/\∃xs:List lh!,
   Paired (λ(p:List Key×V) (q:List Key×Addr×Value)=>p.1=q.1/\H q.2.1=some qm_/\Bl p.2 q.2.2) h1 xs/\
   ∃o es ep,h.get? a=some o/\hP_/\o.data=.dict es ep/\es.toList=xs.map (entryOfKey fH!)/\(xs.map c_).Nodup
 |.set S n=>h.SetOf (intKind P w) a S n
 |.ins C dx fs=>H dx=some fH_/\bj_<=1000/\dx≠a/\h.get? a=some lh_/\
   ∃mA,h.Ns1 dx mA/\qn_/\PySem.Within mA li!
 |.own _=>∃o,h.get? a=some o
 |.xd fs=>∃mA,h.Ns1 a mA/\∀f,Nt (fs.lookup f) (mA f)
 |.rng lo hi=>∃t u v,h.get? a=some {cls:=.type "range",data:=.fields #[.int lo t,.int hi u,.int 1 v]}
 |.frz o u=>h.get? a=some o/\Eo H h a u
 |.tbl ps=>h.get? a=some {cls:=.none,data:=.fields ps}
 |.met f x=>h.get? a=some (W.methodObj af_ fI!)
 |.ext φ=>φ h/\(∃o,h.get? a=some o)/\∀J h2:Heap,φ J->(∀o,J.get? a=some o->h2.get? a=some o)->φ h2
def Lr(H:Hp)(h:Heap):Prop:=∀a o,H a=some o->Eo P w H h a o
end
section
variable{P:z7!}{w:yO!}{H H':Hp}{h h':Heap}{a:xz!}{o:HO}
def Eo.lt(x:li_):a<bR!:=by
 cases o with
 |lst xs=>obtain⟨_,_,_,_,e⟩:=x;exact IS e
 |tup xs=>obtain⟨_,_,_,p⟩:=x;exact p.lt
 |dK h1=>obtain⟨_,_,_,_,o,_,_,e,_⟩:=x;exact IS e
 |dT h1=>obtain⟨_,_,_,_,o,_,_,e,_⟩:=x;exact IS e
 |set S n=>obtain⟨o,_,_,_,e,_⟩:=x;exact IS e
 |ins C dx fs=>obtain⟨_,_,_,e,_⟩:=x;exact IS e
 |own y=>obtain⟨_,e⟩:=x;exact IS e
 |xd fs=>obtain⟨_,⟨_,_,_,e,_⟩,_⟩:=x;exact IS e
 |rng lo hi=>obtain⟨_,_,_,e⟩:=x;exact IS e
 |frz ob u=>obtain⟨e,_⟩:=x;exact IS e
 |tbl ps=>exact IS hQ!
 |met f y=>exact IS hQ!
 |ext φ=>obtain⟨_,⟨_,e⟩,_⟩:=x;exact IS e
def Paired.mapP{α β:Type}{F G:cJ!}:∀{l₁:O!} {l₂:dr!},Paired F l₁ l₂->(∀a b,F a b->G a b)->Paired G l₁ l₂
 |_,_,.nil,_=>.nil
 |_,_,.cons r t,f=>.cons (f _ _ r) (Paired.mapP t f)
def Eo.stay(x:li_)(k:∀b u,(b=a\/H b=some fH_)->h.get? b=some u->h'.get? b=some u)
  (ho:∀b,H b=some fH_->H' b=some fH_)(ht:qo!):Eo P w H' h' a o:=by
 induction o with
 |lst xs=>obtain⟨z,its,n,r,e⟩:=x;exact⟨z,its,n,r,bx!⟩
 |tup xs=>obtain⟨z,its,r,ob,e,c⟩:=x;exact⟨z,its,r,ob,bx!,c⟩
 |dK h1=>obtain⟨z,y,vs,r,ob,es,ep,e,c⟩:=x;exact⟨z,y,vs,r,ob,es,ep,bx!,c⟩
 |dT h1=>
  obtain⟨z,y,xs,r,ob,es,ep,e,c⟩:=x;exact⟨z,y,xs,Paired.mapP r λp q z=>⟨z.1,ht _ _ z.2.1,z.2.2⟩,ob,es,ep,bx!,c⟩
 |set S n=>obtain⟨ob,es,ep,t,e,c⟩:=x;exact⟨ob,es,ep,t,bx!,c⟩
 |ins C dx fs=>
  obtain⟨d,z,ne,e,mA,⟨od,es,ep,e2,c⟩,r⟩:=x;exact⟨ho _ d,z,ne,bx!,mA,⟨od,es,ep,k _ _ (.inr d) e2,c⟩,r⟩
 |own y=>obtain⟨ob,e⟩:=x;exact⟨ob,bx!⟩
 |xd fs=>obtain⟨mA,⟨od,es,ep,e,c⟩,r⟩:=x;exact⟨mA,⟨od,es,ep,bx!,c⟩,r⟩
 |rng lo hi=>obtain⟨t,u,v,e⟩:=x;exact⟨t,u,v,bx!⟩
 |frz ob u ih=>obtain⟨e,q⟩:=x;exact⟨bx!,ih q⟩
 |tbl ps=>
  have e:h.get? a=some {cls:=.none,data:=.fields ps}:=x;show h'.get? a=some {cls:=.none,data:=.fields ps};exact k a _ aj_ e
 |met f y=>
  have e:h.get? a=some qo_:=x;show h'.get? a=some qo_;exact k a _ aj_ e
 |ext φ=>obtain⟨p,⟨o,e⟩,st⟩:=x;exact⟨st _ _ p λo q=>k _ _ aj_ q,⟨o,bx!⟩,st⟩
def Lr.lt(x:a1_)(e:H a=some o):a<bR!:=(x a o e).lt
def Lr.fresh(x:a1_)(e:bR!<=a):H a=none:=by
 cases q:H a with
 |none=>rfl
 |some u=>exact absurd (IW (x.lt q) e) dr_
def Lr.kept(x:a1_)(k:hR_):Lr P w H h':=λa o e=>
 (x a o e).stay (λb u _ q=>k b u q) fJ_ λ_ _ q=>q
def Lr.laid(x:a1_)(k:hR_)(hp:bR!<=a)(new:Eo P w cJ_ h' a o):Lr P w cJ_ h':=λb u e=>by
 have hn:=x.fresh hp;show"#2"
 .show"!s";exact new
 .rw[aY hb]at e;exact(x b u e).stay (λc v _ q=>k c v q) (λc q=>by rw[fK!];exact q) λc xs q=>by rw[fK!];exact q
end
def Rd(H:Hp)(a:xz!)(u:HO):Prop:=H a=some u\/∃o,H a=some fK_
def Rd.ok{P:z7!}{w:yO!}{H:Hp}{h:Heap}{a:xz!}{u:HO}(r:Rd H a u)(x:a1_):Eo P w H h a u:=by
 obtain r|⟨o,r⟩:=r
 .exact x a u r
 .obtain⟨_,q⟩:=x a _ r;exact q
def CM:Option HO->Prop
 |some (.lst _)=>True
 |some (.dK _)=>True
 |some (.dT _)=>True
 |some (.set _ _)=>True
 |some (.ins _ _ _)=>True
 |some (.ext _)=>True
 |_=>False
section
variable{P:z7!}{w:yO!}{H:Hp}{h h':Heap}{x e:xz!}{o':HO}
def Lr.write(ok:a1_)(mu:CM (H x))(he:ll_)(k:qp_)(pb:lm!)
  (new:Eo P w (upd H x o') h' x o'):Lr P w (upd H x o') h':=λb u q=>by
 have zh:∀c y,H c=some (.own y)->c≠x:=λc y r z=>by subst z;rw[r]at mu;exact mu
 have VF:∀c xs,H c=some bw_->c≠x:=λc xs r z=>by subst z;rw[r]at mu;exact mu
 by_cases hb:b=x
 .subst hb;rw[bQ]at q;cases q;exact new
 .rw[aY hb]at q;by_cases dw:b=e
  .have q':H b=some hS_:=by
    obtain z|z:=he
    .exact absurd (dw.trans z) hb
    .rw[dw];exact z
   rw[q]at q';cases q';obtain⟨v,hv⟩:=pb;exact⟨v,by rw[dw];exact hv⟩
  .refine(ok b u q).stay (λc v hc r=>k c v ?_ r) (λc r=>by rw[aY (zh c b r)];exact r) λc xs r=>by rw[aY (VF c xs r)];exact r
   obtain rfl|hc:=hc
   .exact dw
   .rintro rfl;obtain z|z:=he
    .exact zh c b hc z
    .rw[hc]at z;cases z;exact hb rfl
end
structure Un(fs ex:I_)(H H':Hp)(h h':Heap):Prop where
 keep:∀b o,h.get? b=some o->H b=none->b∉fs->b∉ex->h'.get? b=some o
 slot:∀b o,h.get? b=some o->H b=none->b∈fs->b∉ex->∃sl,h'.get? b=some {o with slots:=sl}
 free:∀b o,h.get? b=some o->H b=none->b∉ex->H' b=none
 there:∀b o,h.get? b=some o->b∉ex->∃o',h'.get? b=some o'
 tups:∀b xs,H b=some bw_->H' b=some bw_
 frzs:∀b o u,H b=some fK_->H' b=some fK_
 tbls:∀b ps,H b=some (.tbl ps)->∃pe,H' b=some qr_
section
variable{fs fs' ex zi:List Addr}{H H1 H2:Hp}{h J h2 h':Heap}{a x e:xz!}{o:HO}
def Un.any(u:qr!){b:xz!}(q:h.get? b=some ob)(n:H b=none)(hx:b∉ex):∃sl,J.get? b=some {ob with slots:=sl}:=by
 by_cases hb:b∈fs
 .exact u.slot b ob q n hb hx
 .exact⟨ob.slots,u.keep b ob q n hb hx⟩
def Un.kept(k:hR_):Un fs ex H H h h':=
 ⟨λb ob q _ _ _=>k b ob q,λb ob q _ _ _=>⟨ob.slots,k b ob q⟩,λ_ _ _ n _=>n,λb ob q _=>⟨ob,k b ob q⟩,λ_ _ q=>q,λ_ _ _ q=>q,λ_ ps q=>⟨#[],by rw[q];simp⟩⟩
def Un.refl:Un fs ex H H h h:=Un.kept λ_ _ q=>q
def Un.laid(k:hR_)(hp:bR!<=a)(hn:hT_):Un fs ex H cJ_ h h' where
 keep:=λb u q _ _ _=>k b u q
 slot:=λb u q _ _ _=>⟨u.slots,k b u q⟩
 free:=λb u q n _=>by rw[aY (JF (IW (IS q) hp))];exact n
 there:=λb u q _=>⟨u,k b u q⟩
 tups:=λb xs q=>by rw[fK!];exact q
 frzs:=λb u xs q=>by rw[fK!];exact q
 tbls:=λb ps q=>⟨#[],by rw[fK!,q];simp⟩
def Un.write(mu:CM (H x))(he:ll_)(k:qp_)(pb:lm!):Un fs ex H ln_ h h':=by
 have hx:∀b,H b=none->b≠x:=λb n z=>by subst z;rw[n]at mu;exact mu
 have hb:∀b,H b=none->b≠e:=λb n z=>by
  subst z;obtain r|r:=he
  .exact hx b n r
  .rw[n]at r;cases r
 have hm:∀b u,H b=some u->¬CM (some u)->b≠x:=λb u q nm z=>by subst z;rw[q]at mu;exact nm mu
 refine⟨λb u q n _ _=>k b u (hb b n) q,λb u q n _ _=>⟨u.slots,k b u (hb b n) q⟩,λb u q n _=>by rw[aY (hx b n)];exact n,λb u q _=>?_,
  λb xs q=>by rw[lo!];exact q,λb u xs q=>by rw[lo!];exact q,λb ps q=>⟨#[],by rw[lo!,q];simp⟩⟩
 by_cases dw:b=e
 .subst dw;exact pb
 .exact⟨u,k b u dw q⟩
def Un.mono(u:qr!)(hs:∀b∈fs,b∈fs')(hx:∀b∈ex,b∈zi):Un fs' zi H H1 h J:=
 ⟨λb ob q n hb he=>u.keep b ob q n (λz=>hb (hs b z)) λz=>he (hx b z),λ_ _ q n _ he=>u.any q n λz=>he (hx _ z),λb ob q n he=>u.free b ob q n λz=>he (hx b z),λb ob q he=>u.there b ob q λz=>he (hx b z),u.tups,u.frzs,u.tbls⟩
end
def CY(h:Heap)(H:Hp):List Addr:=(qx!).filter λa=>(H a).isSome
def Sc(h:Heap)(H:Hp):Heap:=W.hideAll h (CY h H)
def b3q(h:Heap)(H:Hp):(hU_).objs.size=bR!:=W.hideAll_size _ _
def b8x{h:Heap}{H:Hp}{b:xz!}{o:Obj}(e:qx_)(n:H b=none):(hU_).get? b=some o:=
 W.hideAll_get _ e λhm=>by
  have q:(H b).isSome=true:=(LP.mp hm).2;rw[n]at q;simp at q
def c2p{h:Heap}{H:Hp}{b:xz!}{o:Obj}(e:(hU_).get? b=some o):h.get? b=some o/\H b=none:=by
 have e':h.get? b=some o:=W.of_hideAll (CY h H) e;refine⟨e',?_⟩;cases q:H b with
 |none=>rfl
 |some x=>
  have hm:b∈CY h H:=LP.mpr ⟨PF.mpr (IS e'),by simp[q]⟩;have z:(hU_).get? b=none:=W.hideAll_none (CY h H) hm;rw[z]at e;cases e
def Yh(g h:Heap)(L:xz!):List ei!:=(qx!).filterMap λa=>if a=L\/(g.get? a).isSome=true then none else(h.get? a).map λo=>(a,o)
nonrec def rest(g h:Heap)(L d:xz!):List ei!:=(Yh g h L).filter λp=>decide (p.1≠d)
end L2
namespace L2
open PySem PySem.Spec PyProof.Rows
structure Mod(K:zY!)(mg:x!)(base:Heap):Prop where
 kin:K.In base
 glob:base.Ns mainGlobals mg
 blt:∃mb,base.Ns builtinsNs mb/\∀x:Str,x≠"__name__"->mb x=bootBuiltins x
 nolimit:base.NoLimit
structure Cx where
 prog:Program
 w:World
 K:W.Frag
 mg:Str->Option Value
 base:Heap
 A:Around
 N:List Str
 s₀:Shared
 H₀:Hp
 env:Env
 outer:List Env
 stack:List Env
 ex:List Addr
 fn:Str->Bool
 calm:Bool
 pn:List ei!
 xe:Value->Shared->Prop
nonrec def frs(l:P_):List Addr:=l.filterMap (·.frame)
abbrev Cx.fs(X:Cx):List Addr:=frs X.outer
def Vu(sc:Scope)(x:Str):Prop:=sc.names.lookup x=some .local\/sc.names.lookup x=some .cell\/sc.names.lookup x=some .free
def Vz(sc:Scope)(x:Str):Prop:=sc.names.lookup x=some .local\/sc.names.lookup x=some .cell
def CN(env:Env)(h:Heap)(m:x!)(x:Str)(u:xT!):Prop:=
 (env.kindOf x=some .local/\m x=some u)\/((env.kindOf x=some .cell\/env.kindOf x=some .free)/\∃c,env.cells.lookup x=some c/\h.IsCell c (some u))
structure Cx.Ok(X:Cx):Prop where
 mod:Mod X.K X.mg X.base
 kind:lr!=.function
 glob:X.env.globals=mainGlobals
 blt:X.env.builtins=builtinsNs
 above:dt!<=X.env.locals
 inj:∀x y c,X.env.cells.lookup x=some c->X.env.cells.lookup y=some c->x=y
 has:∀x,qz!->∃c,X.env.cells.lookup x=some c
 cab:∀x c,X.fn x=true->X.env.cells.lookup x=some c->dt!<=c
 hd:X.calm=true->ei_=none
 frames:X.A.frames=some X.stack
 stk:X.stack=X.outer\/(X.stack=X.env::X.outer/\X.env.frame=some X.env.locals)
 exf:∀b∈X.ex,b≠X.env.locals/\∀x c,X.env.cells.lookup x=some c->c≠b
 bs:∀b o,X.base.get? b=some o->X.s₀.heap.get? b=some o/\X.H₀ b=none
 bsz:X.base.objs.size<=dt!
 noex:∀b o,X.base.get? b=some o->b∉X.ex
 exfs:∀b∈X.ex,b∉X.fs
 funs:X.s₀.heap.FunFrames X.base X.outer
 frf:∀b∈X.fs,X.H₀ b=none
structure Inv(X:Cx)(Y:k_)(Z:List (Option V))(H:Hp)(s:z6!):Prop where
 ok:X.Ok
 os:s.os=X.s₀.os
 bare:AllBare s.gens
 base:Un X.fs X.ex X.H₀ H X.s₀.heap s.heap
 loc:∃m,s.heap.Ns X.env.locals m/\∀(i:Nat) (x:Str) (v:V),X.N[i]?=some x->Z[i]?=some a2!->Vu X.env.scope x->∃u,Bl v u/\CN X.env s.heap m x u
 cell:∀x c,X.env.cells.lookup x=some c->∃v,s.heap.IsCell c v
 free:H X.env.locals=none
 freeC:∀x c,X.env.cells.lookup x=some c->H c=none
 pin:∀p∈X.pn++Y,s.heap.get? p.1=some p.2/\H p.1=none/\p.1≠X.env.locals/\p.1∉X.fs/\∀v,p.2.data≠.cell v
 hok:Lr X.prog X.w H s.heap
 len:ej!=lt!
section
variable{X:Cx}{Y:List (Addr×Obj)}{Z:List (Option V)}{H H':Hp}{s:z6!}{h':Heap}
def Cx.Ok.nofr(ok:X.Ok){b:xz!}{o:Obj}(e:X.base.get? b=some o):b∉X.fs:=λhb=>by
 have:=(ok.funs.mem hb).1;rw[e]at this;cases this
def Inv.bs(I:d!):∀b o,X.base.get? b=some o->s.heap.get? b=some o/\H b=none:=λb o e=>
 ⟨I.base.keep b o (hY!).1 (hY!).2 (I.ok.nofr e) qB!,I.base.free b o (hY!).1 (hY!).2 qB!⟩
def Inv.bk(I:d!):∀b o,X.base.get? b=some o->s.heap.get? b=some o:=λb o e=>(I.bs b o e).1
def Inv.mod(I:d!):Mod X.K X.mg X.base:=I.ok.mod
def Inv.kIn(I:d!):X.K.In s.heap:=I.ok.mod.kin.keeps I.bk
def Inv.lt(I:d!):X.env.locals<g!:=let⟨_,hn,_⟩:=I.loc;hn.lt
def Inv.sz(I:d!):dt!<=g!:=JM I.ok.above (NV I.lt)
def Inv.nofs(I:d!){a:xz!}(h:g!<=a):a∉X.fs:=λhb=>by
 obtain⟨_,o,ho,_⟩:=I.ok.funs.mem hb;exact absurd (IW hZ! (JM I.sz h)) dr_
def Inv.cne(I:d!):∀x c,X.env.cells.lookup x=some c->c≠X.env.locals:=λx c e z=>by
 obtain⟨v,o,ho,hd⟩:=I.cell x c e;obtain⟨m,⟨o',es,ep,d9,mi,_⟩,_⟩:=I.loc;rw[z,d9]at ho;cases ho;rw[mi]at hd;cases hd
def Inv.funs(I:d!):s.heap.FunFrames X.base X.outer:=by
 have all:∀(l:P_),(∀b∈frs l,b∈X.fs)->X.s₀.heap.FunFrames X.base l->s.heap.FunFrames X.base l:=by
  intro l
  induction l with
  |nil=>intro _ _;trivial
  |cons env r ih=>
   intro hs hl;obtain⟨hk,⟨L,o,hf,hn,ho,hd⟩,hr⟩:=hl;have hL:L∈X.fs:=hs L (by unfold frs;rw[OO,hf];exact HX);obtain⟨sl,e⟩:=I.base.slot L o ho (I.ok.frf L hL) hL λz=>I.ok.exfs L z hL
   exact⟨hk,⟨L,_,hf,hn,e,hd⟩,ih (λb hb=>hs b (by unfold frs;rw[OO,hf];exact HS _ hb)) hr⟩
 exact all X.outer (λ_ hb=>hb) I.ok.funs
def Inv.stack(I:d!):s.heap.FunFrames X.base X.stack:=by
 obtain e|⟨e,hf⟩:=I.ok.stk
 .rw[e];exact I.funs
 .rw[e];obtain⟨m,hn,_⟩:=I.loc;refine .cons (by rw[I.ok.kind];decide) hf hn ?_ I.funs;exact Heap.get?_none_of_le (JM I.ok.bsz I.ok.above)
def Inv.stkSub(I:d!):∀b∈frs X.stack,b∈X.env.locals::X.fs:=λb hb=>by
 obtain e|⟨e,hf⟩:=I.ok.stk
 .rw[e]at hb;exact HS _ hb
 .rw[e]at hb;unfold frs at hb;rw[OO,hf]at hb;exact hb
def Inv.stkFree(I:d!):∀b∈frs X.stack,H b=none:=λb hb=>by
 obtain e|hb:=HV.mp (I.stkSub b hb)
 .rw[e];exact I.free
 .obtain⟨_,o,ho,_⟩:=I.ok.funs.mem hb;exact I.base.free b o ho (I.ok.frf b hb) λz=>I.ok.exfs b z hb
def Inv.step{g':lu_}{t':Nat}{d':Drawn}{ch:I_}(I:d!)
  (jf:∀b∈ch,h0!/\b≠X.env.locals/\h0_/\∀p∈X.pn++Y,p.1≠b)
  (keep:∀b o,b≠X.env.locals->b∉X.fs->b∉ch->s.heap.get? b=some o->H b=none->h'.get? b=some o)
  (slot:∀b o,b≠X.env.locals->b∈X.fs->b∉ch->s.heap.get? b=some o->H b=none->∃sl,h'.get? b=some {o with slots:=sl})(free:∀b o,b∉ch->s.heap.get? b=some o->H b=none->H' b=none)
  (there:∀b o,b∉ch->s.heap.get? b=some o->∃o',h'.get? b=some o')
  (tups:qo!)(frzs:∀b o u,H b=some fK_->H' b=some fK_)(tbls:∀b ps,H b=some (.tbl ps)->∃pe,H' b=some qr_)
  (ns:∀m,s.heap.Ns X.env.locals m->h'.Ns X.env.locals m)(hok:h1!)(hg:lw!):
  Inv X Y Z H' {s with heap:=h',gens:=g',drawn:=d',toks:=t'}:=by
 have zj:∀b o,X.s₀.heap.get? b=some o->b≠X.env.locals:=λb o e=>JF lv!;have uo:∀b o,X.s₀.heap.get? b=some o->b∉X.ex->b∉ch:=λb o e hx hb=>by
  obtain z|z:=(jf b hb).1
  .exact hx z
  .exact absurd (IW cL! z) dr_
 have zk:∀x c,X.env.cells.lookup x=some c->∀v,s.heap.IsCell c v->h'.IsCell c v:=λx c e v ⟨o,ho,hd⟩=>by
  have rj:c∉ch:=λz=>(jf c z).2.2.1 x c e rfl;by_cases hc:c∈X.fs
  .obtain⟨sl,q⟩:=slot c o (I.cne x c e) hc rj ho lw_;exact⟨_,q,hd⟩
  .exact⟨o,keep c o (I.cne x c e) hc rj ho lw_,hd⟩
 refine⟨I.ok,I.os,hg,⟨fS!,fS!,λb o e n hx=>?_,lx_,λb xs e=>tups b xs (I.base.tups b xs e),λb o xs e=>frzs b o xs (I.base.frzs b o xs e),λb ps e=>?_⟩,?_,ly_,?_,ly_,cL_,hok,I.len⟩
 .exact keep b o (zj b o e) hb h2_ h3! lz!
 .show"!=";obtain⟨VG,e2⟩:=slot b _ (zj b o e) hb h2_ e1 lz!;exact⟨VG,e2⟩
 .show"!9";exact free b o' h2_ e1 lz!
 .show"!9";exact there b o' h2_ e1
 .obtain⟨m1,e1⟩:=I.base.tbls b ps e;obtain⟨m2,e2⟩:=tbls b _ e1;exact⟨m1++m2,by rw[e2,Array.append_assoc]⟩
 .obtain⟨m,hn,hl⟩:=I.loc;refine⟨m,ns m hn,qH!⟩;obtain⟨u,r,l⟩:=hl i x v e1 e2 e3;refine⟨u,r,?_⟩;obtain l|⟨k,c,e,z⟩:=l
  .exact .inl l
  .exact .inr ⟨k,c,e,zk x c e _ z⟩
 .obtain⟨v,z⟩:=I.cell x c e;exact⟨v,zk x c e v z⟩
 .obtain⟨m,⟨o,_,_,ho,_⟩,_⟩:=I.loc;exact free _ o (λz=>(jf _ z).2.1 rfl) ho I.free
 .obtain⟨v,o,ho,hd⟩:=I.cell x c e;exact free c o (λz=>(jf c z).2.2.1 x c e rfl) ho lw_
 .show"!L";have rj:p.1∉ch:=λz=>(jf p.1 z).2.2.2 p hp rfl;exact⟨keep p.1 p.2 ne nf rj e n,free p.1 p.2 rj e n,ne,nf,d⟩
def Inv.un{t':Nat}(I:d!)(u:Un X.fs [] H H' s.heap h')(hok:h1!):Inv X Y Z H' {s with heap:=h',toks:=t'}:=by
 obtain⟨m,⟨o,es,ep,ho,r⟩,_⟩:=id I.loc;obtain⟨sl,hL⟩:=u.any ho I.free b_;exact I.step (g':=s.gens) (d':=s.drawn) (ch:=[]) qI! (λb o _ hb _ e n=>u.keep b o e n hb b_) (λb o _ hb _ e n=>u.slot b o e n hb b_) (λb o _ e n=>u.free b o e n b_) (λb o _ e=>u.there b o e b_) u.tups u.frzs u.tbls (λm' hm=>by
  obtain⟨o',a7,bg,d9,r'⟩:=hm;rw[ho]at d9;cases d9;exact qI_) hok I.bare
def Inv.call{g':lu_}{t':Nat}{d':Drawn}{ch:I_}(I:d!)(u:Un h4_ ch H H' s.heap h')(hok:h1!)(hg:lw!)
  (jf:∀b∈ch,h0!/\b≠X.env.locals/\h0_/\∀p∈X.pn++Y,p.1≠b):
  Inv X Y Z H' {s with heap:=h',gens:=g',drawn:=d',toks:=t'}:=by
 obtain⟨m,⟨o,es,ep,ho,r⟩,_⟩:=id I.loc;obtain⟨sl,hL⟩:=u.any ho I.free λz=>(jf _ z).2.1 rfl
 exact I.step (ch:=ch) jf (λb o hL hb hc e n=>u.keep b o e n (λz=>(HV.mp (I.stkSub b z)).elim hL hb) hc) (λb o _ _ hc e n=>u.any e n hc) (λb o hc e n=>u.free b o e n hc) (λb o hc e=>u.there b o e hc) u.tups u.frzs u.tbls (λm' hm=>by
  obtain⟨o',a7,bg,d9,r'⟩:=hm;rw[ho]at d9;cases d9;exact qI_) hok hg
def Inv.turned{t':Nat}(I:d!)(k:∀b o,b≠it->s.heap.get? b=some o->h'.get? b=some o)(hn:H it=none)(hL:it≠X.env.locals)
  (J:it∈X.ex\/dt!<=it)(h2:∀x c,X.env.cells.lookup x=some c->c≠it)(h3:∀p∈X.pn++Y,p.1≠it):Inv X Y Z H {s with heap:=h',toks:=t'}:=by
 have pf:∀b u,H b=some u->b≠it:=λb u e z=>by rw[z,hn]at e;cases e
 refine I.step (g':=s.gens) (d':=s.drawn) (ch:=[it]) h5_ (λb o _ _ hc e _=>k b o h6_ e) (λb o _ _ hc e _=>⟨o.slots,k b o h6_ e⟩) h7!
  (λb o hc e=>⟨o,k b o h6_ e⟩) h7_ h8! (λb ps e=>lB_) h8_ qL_ I.bare
 .have e:b=it:=by simpa using hb
  subst e;exact⟨J,hL,h2,h3⟩
 .obtain⟨o,es,ep,ho,r⟩:=hm;exact⟨o,es,ep,k _ o (JE hL) ho,r⟩
 .refine(lC!).stay (λc v hc q=>k c v ?_ q) fJ_ λ_ _ q=>q;obtain z|z:=hc
  .rw[z];exact pf b u e
  .exact pf c _ z
def Inv.tok(I:d!)(t:Nat):Inv X Y Z H {s with toks:=t}:=I.un (h':=s.heap) (t':=t) Un.refl I.hok
def Inv.kept{t':Nat}(I:d!)(k:qN!):Inv X Y Z H {s with heap:=h',toks:=t'}:=I.un (Un.kept k) (I.hok.kept k)
def Inv.laid{a:xz!}{o:HO}{t':Nat}(I:d!)(k:qN!)(hp:g!<=a)(new:Eo X.prog X.w cJ_ h' a o):
  Inv X Y Z cJ_ {s with heap:=h',toks:=t'}:=I.un (Un.laid k hp (I.hok.fresh hp)) (I.hok.laid k hp new)
def Inv.write{x e:xz!}{o:HO}{t':Nat}(I:d!)(mu:CM (H x))(he:ll_)(k:∀b u,b≠e->s.heap.get? b=some u->h'.get? b=some u)(pb:lm!)
  (new:Eo X.prog X.w ln_ h' x o):Inv X Y Z ln_ {s with heap:=h',toks:=t'}:=I.un (Un.write mu he k pb) (I.hok.write mu he k pb new)
def Inv.pins_of{ph:k_}(I:d!)(h:∀p∈ph,s.heap.get? p.1=some p.2/\H p.1=none/\p.1≠X.env.locals/\p.1∉X.fs/\∀v,p.2.data≠.cell v):Inv X ph Z H s:=
 ⟨I.ok,I.os,I.bare,I.base,I.loc,I.cell,I.free,I.freeC,λp hp=>(II.mp hp).elim (λz=>I.pin p h9_) (h p),I.hok,I.len⟩
def a3n{N:o!}(hN:N.Nodup){i j:Nat}{x:Str}(a:N[i]?=some x)(b:N[j]?=some x):i=j:=by obtain⟨J,e1⟩:=IJ.mp a;obtain⟨h2,e2⟩:=IJ.mp b;exact(List.getElem_inj hN).mp qO_
def wW{M:Model}{A:x8!}{E:l_}{i:Nat}{x:Str}{v:V}{u:xT!}{Q:cM!}(I:d!)(hN:aT_)(hi:aa_)(hx:a2_)(r:a3!)
  (h:∀s',Inv X Y ej_ H s'->(∃a,Heap.SameBut a s.heap s'.heap/\(a=X.env.locals\/X.env.cells.lookup x=some a))->Q () s')(hf:X.fn x=true\/X.env.scope.names.lookup x=some .local:=by first|exact .inl rfl|exact .inr rfl|assumption):wpAny M A qP_ Q E s:=by
 obtain⟨m,hn,hl⟩:=id I.loc;have VH:(lr!==.class||(lr!==.module&&X.env.locals != X.env.globals))=false:=by rw[I.ok.kind];rfl
 have zl:i<ej!:=by rw[I.len];exact(IJ.mp hi).1
 have cne:=I.cne;have zm:∀{a:xz!} {h':Heap},(∃o,s.heap.get? a=some o/\H a=none)->Heap.SameBut a s.heap h'->Lr X.prog X.w H h':=λ{a h'} ha hs b ob e=>by
  obtain⟨_,_,gw⟩:=ha;refine(qQ_).stay qR! fJ_ λ_ _ q=>q;rintro rfl;obtain rfl|hc:=hc
  .rw[gw]at e;cases e
  .rw[gw]at hc;cases hc
 obtain hk|hk:=hx
 .refine wpAny_storeName_local hk hn (λh' pi hs=>?_) VH;obtain⟨oL,_,_,kj,_⟩:=id hn;refine h _ ⟨I.ok,I.os,I.bare,qS!,⟨_,pi,qS_⟩,λy c e=>?_,I.free,I.freeC,cL_,zm ⟨oL,kj,I.free⟩ hs,qU_⟩ ⟨_,hs,cM_⟩
  .exact(lD!).trans h3!
  .show"!=";exact⟨sl,(lD!).trans e1⟩
  .show"!9";exact⟨o',(lD!).trans e1⟩
  .by_cases hj:j=i
   .show"#&";exact⟨u,r,.inl ⟨hk,Q!⟩⟩
   .rw[lD_]at e2;obtain⟨u',r',q⟩:=hl j y v' e1 e2 e3;refine lE!;obtain⟨k,e⟩|⟨k,c,e,z⟩:=q
    .refine .inl ⟨k,?_⟩;have:y≠x:=λe=>hj (a3n hN e1 (e▸hi));simp[this,e]
    .exact .inr ⟨k,c,e,qW!⟩
  .obtain⟨w',z⟩:=I.cell y c e;exact⟨w',qW!⟩
  .show"!L";exact qW_
 .have v4:X.fn x=true:=by
   obtain z|z:=hf
   .exact z
   .rw[z]at hk;cases hk
  obtain⟨c,hc⟩:=I.ok.has x lF_;obtain⟨w',z⟩:=I.cell x c hc;refine wpAny_storeName_cell I.ok.kind hk hc z (λh' b7 hs=>?_);obtain⟨oc,zn,VI⟩:=id z;refine h {s with heap:=h'} ⟨I.ok,I.os,I.bare,qS!,⟨m,hn.sameBut hs (JE (cne x c hc)),qS_⟩,λy c' e=>?_,I.free,I.freeC,cL_,zm ⟨oc,zn,I.freeC x c hc⟩ hs,qU_⟩ ⟨c,hs,.inr hc⟩
  .exact(lG!).trans h3!
  .show"!=";exact⟨sl,(lG!).trans e1⟩
  .show"!9";exact⟨o',(lG!).trans e1⟩
  .by_cases hj:j=i
   .show"#&";exact⟨u,r,.inr ⟨.inl hk,c,hc,b7⟩⟩
   .rw[lD_]at e2;obtain⟨u',r',q⟩:=hl j y v' e1 e2 e3;refine lE!;obtain q|⟨k,c',e,z'⟩:=q
    .exact .inl q
    .refine .inr ⟨k,c',e,z'.sameBut hs ?_⟩;rintro rfl;exact hj (a3n hN e1 (I.ok.inj _ _ _ e hc▸hi))
  .by_cases gh:c'=c
   .subst gh;exact⟨_,b7⟩
   .obtain⟨w2,z2⟩:=I.cell y c' e;exact⟨w2,z2.sameBut hs gh⟩
  .show"!L";refine⟨(hs.2 p.1 ?_).trans e,n,ne,nf,d⟩;intro q;rw[q,zn]at e;have q':oc=p.2:=JX e;exact d w' (by rw[<-q'];exact VI)
def nT{M:Model}{A:x8!}{E:l_}{i:Nat}{x:Str}{v:V}{u:xT!}{Q:cM!}(I:d!)(hN:aT_)(hi:aa_)(hx:a2_)(r:a3!)
  (h:∀s',Inv X Y ej_ H s'->Q () s')(hf:X.fn x=true\/X.env.scope.names.lookup x=some .local:=by first|exact .inl rfl|exact .inr rfl|assumption):wpAny M A qP_ Q E s:=
 wW I hN hi hx r (λs' I' _=>h s' I') hf
def Inv.call'{s':z6!}{ch:I_}(I:d!)(ho:s'.os=s.os)(u:Un h4_ ch H H' s.heap s'.heap)(hok:Lr X.prog X.w H' s'.heap)(hg:AllBare s'.gens)
  (jf:∀b∈ch,h0!/\b≠X.env.locals/\h0_/\∀p∈X.pn++Y,p.1≠b):Inv X Y Z H' s':=by
 obtain⟨h',g',d',t',o'⟩:=s';have e:o'=s.os:=ho;subst e;exact I.call (g':=g') (t':=t') (d':=d') u hok hg jf
end
abbrev XK:=Value->Option Addr->Hp->Prop
abbrev St:=List (Option V)
abbrev VK:=V->Hp->Prop
abbrev TE:=St->Hp->VK->Prop
abbrev TT:=St->Hp->qX_->Prop
abbrev TA:=St->Hp->(List V->Hp->Prop)->Prop
structure Sj where
 nx:St->Hp->Prop
 rt:VK
 bk:St->Hp->Prop:=λ_ _=>False
 ct:St->Hp->Prop:=λ_ _=>False
abbrev TS:=Sj->St->Hp->Prop
inductive EP(X:Cx)(Y:k_)(Z:St)(Q:VK)(u:xT!)(s':z6!):Prop
 |mk (v:V) (H':Hp) (I:lI!) (r:a3!) (q:Q v H'):EP X Y Z Q u s'
inductive TP(X:Cx)(Y:k_)(Z:St)(Q:du_)(b:Bool)(s':z6!):Prop
 |mk (H':Hp) (I:lI!) (q:Q b H'):TP X Y Z Q b s'
inductive AP(X:Cx)(Y:k_)(Z:St)(Q:cN!)(us:g_)(s':z6!):Prop
 |mk (vs:m_) (H':Hp) (I:lI!) (r:ek_) (q:Q vs H'):AP X Y Z Q us s'
def SP(X:Cx)(Y:k_)(D:Sj)(f:Flow)(s':z6!):Prop:=
 match f with
 |.next=>∃ac H',Inv X Y ac H' s'/\D.nx ac H'
 |.brk=>∃ac H',Inv X Y ac H' s'/\D.bk ac H'
 |.cont=>∃ac H',Inv X Y ac H' s'/\D.ct ac H'
 |.ret u=>∃v ac H',Inv X Y ac H' s'/\Bl v u/\D.rt v H'
def PE(X:Cx)(e:Expr)(t:TE):Prop:=
 ∀(Y:k_) (s:z6!) (Z:St) (H:Hp) (Q:VK),Inv X Y Z H s->t Z H Q->wpAny e! X.A el! aD! X.xe s
def PT(X:Cx)(e:Expr)(t:TT):Prop:=
 ∀(Y:k_) (s:z6!) (Z:St) (H:Hp) (Q:du_),Inv X Y Z H s->t Z H Q->wpAny e! X.A (isTrue e X.env el!) ib! X.xe s
def PW(X:Cx)(e:Expr)(t:TT):Prop:=
 ∀(dz:Sem Value) (Y:k_) (s:z6!) (Z:St) (H:Hp) (Q:du_),Inv X Y Z H s->t Z H Q->wpAny e! X.A (isTrue e X.env dz) ib! X.xe s
def PW.pt{X:Cx}{e:Expr}{t:TT}(h:PW X e t):PT X e t:=h _
def PA(X:Cx)(es:bk_)(t:TA):Prop:=
 ∀(pos:Pos) (Y:k_) (s:z6!) (Z:St) (H:Hp) (Q:cN!),Inv X Y Z H s->t Z H Q->wpAny e! X.A (spliced qZ!) (AP X Y Z Q) X.xe s
def PS(X:Cx)(st:Stmt)(t:TS):Prop:=
 ∀(Y:k_) (s:z6!) (Z:St) (H:Hp) (D:Sj),Inv X Y Z H s->t D Z H->wpAny e! X.A (exec st X.env) lJ! X.xe s
def Ox(X:Cx)(st:by!)(t:TS):Prop:=
 ∀(Y:k_) (s:z6!) (Z:St) (H:Hp) (D:Sj),Inv X Y Z H s->t D Z H->wpAny e! X.A (execs st X.env) lJ! X.xe s
def cX{α:Type}{t:Sem α}{Q Q':q0_}{M:Model}{A:x8!}{E:l_}{s:z6!}(h:wpAny M A t Q E s)(hQ:∀a s,Q a s->Q' a s):wpAny M A t Q' E s:=KS h hQ λ_ _ x=>x
end L2
namespace L2
open PySem PySem.Spec PyProof.Rows
section
variable{X:Cx}
def bin{a b:Expr}{ta tb:TE}(ha:aU!)(hb:cf!){Y:k_}{s:z6!}{Z:St}{H:Hp}{R:q1_}(I:d!)(h:q2!)
  {α:Type}{Q:q0_}{f:Value->Value->Sem α}
  (hf:q3!):
  wpAny e! X.A lK_ q4! X.xe s:=by
 show"!;"
def DZ(i:Nat):TE:=λZ H Q=>∃v,Z[i]?=some a2!/\Q v H
nonrec def tC(v:V):TE:=λ_ H Q=>Q v H
def jX{i:Nat}{x:Str}{pos:Pos}(hN:aa_)(hv:cf_)(hd:y_:=by decide)(bv:cg!:=by decide):PE X cN_ (DZ i):=by
 intro Y s Z H Q I h;obtain⟨v,e,h⟩:=h;obtain⟨m,hn,hl⟩:=I.loc;obtain⟨u,r,l⟩:=hl i x v hN e hv;have fin:EP X Y Z Q u s:=lM!;obtain⟨hk,hm⟩|⟨hk,c,hc,cf⟩:=l
 .exact wpAny_Name (wpAny_loadName_local I.ok.kind hk hn hm fin) hd
 .obtain hk|hk:=hk
  .exact wpAny_Name (wpAny_loadName_cell I.ok.kind hk hc cf fin) hd
  .exact wpAny_Name (wpAny_loadName_free I.ok.kind hk hc cf fin bv) hd
def c6x {i j pos}:PE X q6! (tC ak_):=λ_ _ _ H _ I h=>wpAny_Constant_int ⟨V_,H,aU_,L_,h⟩
def d0v {b j pos}:PE X (.Constant lO! j pos) (tC bl!):=λ_ _ _ H _ I h=>Constant_bool ⟨.bl b,H,I,rfl,h⟩
def c6w {j pos}:PE X q7! (tC .non):=λ_ _ _ H _ I h=>Constant_none ⟨.non,H,I,rfl,h⟩
def a6x {x j pos}:PE X (.Constant by_ j pos) (tC by_):=λ_ _ _ H _ I h=>Calls.Constant_str ⟨.str x,H,aU_,L_,h⟩
def Gl(X:Cx)(x:Str):Prop:=X.env.kindOf x=some .globalImplicit
def iB{E:l_}{Y:k_}{s:z6!}{Z:St}{H:Hp}{x:Str}{u:xT!}{pos:Pos}{Q:l_}(I:d!)(hg:J!)(hm:X.mg x=some u)(h:Q u s)
  (hd:y_:=by decide):wpAny e! X.A q8_ Q E s:=
 Calls.Name_function_global I.ok.kind hg (Calls.loadGlobal_global q9! hm h) hd
def iP{E:l_}{Y:k_}{s:z6!}{Z:St}{H:Hp}{x:Str}{u:xT!}{pos:Pos}{Q:l_}(I:d!)(hg:J!)(hm:cO!)(hv:q9_)(h:Q u s)
  (hn:cO_:=by decide)(hd:y_:=by decide):wpAny e! X.A q8_ Q E s:=by
 obtain⟨mb,J,h2⟩:=I.mod.blt;exact Calls.Name_function_global I.ok.kind hg (Calls.loadGlobal_builtin q9! hm (by rw[I.ok.blt];exact J.keeps I.bk) ((h2 x hn).trans hv) h) hd
def b0c{x:Str}{v:V}{u:xT!}{pos:Pos}(hg:J!)(hm:X.mg x=some u)(r:a3!)(hd:y_:=by decide):PE X cN_ (tC v):=
 λ_ _ _ H _ I h=>iB I hg hm lM! hd
def c2c{x:Str}{v:V}{u:xT!}{pos:Pos}(hg:J!)(hm:cO!)(hv:q9_)(r:a3!)(hn:cO_:=by decide)(hd:y_:=by decide):PE X cN_ (tC v):=
 λ_ _ _ H _ I h=>iP I hg hm hv lM! hn hd
variable{a b:Expr}{ta tb:TE}{pos:Pos}
def PC(X:Cx)(op:CmpOp)(a b:Expr)(t:TE):Prop:=
 ∀(Y:k_) (s:z6!) (Z:St) (H:Hp) (Q:VK),Inv X Y Z H s->t Z H Q->
  wpAny e! X.A lK_ (λv al=>wpAny e! X.A u0! (λu ao=>wpAny e! X.A (compareOp op v u) aD! X.xe ao) X.xe al) X.xe s
def b7c(b:Expr){op:CmpOp}(h:op≠.In)(h2:op≠.NotIn):behindInMarks op b=false:=by
 have e1:ra_=false:=by cases op<;>first|rfl|exact absurd rfl h
 have e2:rb!=false:=by cases op<;>first|rfl|exact absurd rfl h2
 cases b<;>simp[behindInMarks,e1,e2]
nonrec def tB(t:TE):TT:=λZ H Q=>t Z H λx H1=>∃c,x=.bl c/\Q c H1
def d2p{op:CmpOp}{t:TE}(h:PC X op a b t)(J:dv_:=by first|exact b7c _ c! c!|rfl):PT X dw! (tB t):=by intro Y s Z H Q I hw;refine RL (cX lP_ λv s1 J=>cX J λu s2 h2=>cX h2 λc s3 ⟨x,H1,I1,r1,q1⟩=>?_) J;obtain⟨d,rfl,q⟩:=q1;cases r1;exact JW ⟨H1,I1,q⟩
def a6u{e:Expr}{t:TE}(h:id_)(he:ie!:=by intro _;rfl):PT X e (tB t):=by intro Y s Z H Q I hw;refine isTrue_plain (cX lP_ λv s1 ⟨x,H1,I1,r1,q1⟩=>?_) (he _);obtain⟨d,rfl,q⟩:=q1;cases r1;exact JW ⟨H1,I1,q⟩
variable{tA uq:TT}{rest:List Expr}
def EL(t u:TT):TT:=λZ H Q=>t Z H λc H1=>if c=true then u Z H1 Q else Q false H1
def GV(t u:TT):TT:=λZ H Q=>t Z H λc H1=>if c=true then Q true H1 else u Z H1 Q
def EE(t:TT):TT:=λZ H Q=>t Z H λc H1=>Q (!c) H1
def a9q(ha:fW!):PW X lQ_ tA:=by
 intro wh Y s Z H Q I h;refine isTrue_and rc!;cases c with
 |true=>exact isTrue_and_nil e
 |false=>exact e
def b5k(ha:fW!):PW X lR! tA:=by
 intro wh Y s Z H Q I h;refine isTrue_or rc!;cases c with
 |false=>exact isTrue_or_nil e
 |true=>exact e
def b5l(ha:fW!)(hb:PW X el_ uq):PW X em! (EL tA uq):=by
 intro wh Y s Z H Q I h;refine isTrue_and rd!;cases c with
 |true=>exact hb wh Y s1 Z H1 Q I1 q1
 |false=>exact rd_
def c5d(ha:fW!)(hb:PW X em_ uq):PW X en! (GV tA uq):=by
 intro wh Y s Z H Q I h;refine isTrue_or rd!;cases c with
 |true=>exact rd_
 |false=>exact hb wh Y s1 Z H1 Q I1 q1
def b5r(ha:fW!):PT X en_ (EE tA):=by intro Y s Z H Q I h;exact isTrue_not (cX (ha Y s Z H (λc H1=>Q (!c) H1) I h) λ_ _ ⟨H2,I2,q⟩=>⟨H2,I2,q⟩)
def BI(ta tb:TE):TE:=λZ H Q=>ta Z H λx H1=>∃c,x=.bl c/\if c=true then tb Z H1 Q else Q ab! H1
def ED(ta tb:TE):TE:=λZ H Q=>ta Z H λx H1=>∃c,x=.bl c/\if c=true then Q B! H1 else tb Z H1 Q
def BB(ta:TE):TE:=λZ H Q=>ta Z H λx H1=>∃c,x=.bl c/\Q (.bl (!c)) H1
def b6i {op}{t:TE}(h:PE X a t):PE X lS! t:=λY s Z H Q I hw=>BoolOp_one rf!
def b6m(ha:aU!)(hb:PE X el_ tb):PE X em! (BI ta tb):=by
 intro Y s Z H Q I h;refine BoolOp_and lS_;obtain⟨c,rfl,q1⟩:=q1;cases r1;refine JW ?_;cases c with
 |true=>exact hb Y s1 Z H1 Q I1 q1
 |false=>exact⟨.bl false,H1,I1,rfl,q1⟩
def c5f(ha:aU!)(hb:PE X em_ tb):PE X en! (ED ta tb):=by
 intro Y s Z H Q I h;refine BoolOp_or lS_;obtain⟨c,rfl,q1⟩:=q1;cases r1;refine JW ?_;cases c with
 |false=>exact hb Y s1 Z H1 Q I1 q1
 |true=>exact⟨eo!,H1,I1,rfl,q1⟩
def b6j(ha:aU!):PE X en_ (BB ta):=by intro Y s Z H Q I h;refine UnaryOp_ lS_;obtain⟨c,rfl,q1⟩:=q1;cases r1;exact not_of (JW ⟨.bl (!c),H1,I1,rfl,q1⟩)
def GW(t:TT)(ta tb:TE):TE:=λZ H Q=>t Z H λc H1=>if c=true then ta Z H1 Q else tb Z H1 Q
def uA{c:Expr}(hc:PT X c tA)(ha:aU!)(hb:cf!):PE X lT_ (GW tA ta tb):=by
 intro Y s Z H Q I h;refine wpAny_IfExp rf_;cases d with
 |true=>exact ha Y s1 Z H1 Q I1 q1
 |false=>exact hb Y s1 Z H1 Q I1 q1
end
end L2
namespace L2
open PySem PySem.Spec PyProof.Rows
def Fh(K:zY!)(H:Hp)(a:xz!)(xs:m_):Prop:=
 Rd H a Q_\/
  ∃(o:Obj) (its:I!) (n:Nat),K.lookup a=some o/\o.cls=.type "list"/\o.dict=none/\o.data=.seq its n/\its.size<=sizeLine/\Ax xs if!
def Fy(K:zY!)(H:Hp)(a:xz!)(xs:m_):Prop:=
 Rd H a bw_\/
  ∃(o:Obj) (its:I!) (n:Nat),K.lookup a=some o/\o.cls=.type "tuple"/\o.data=.seq its n/\its.size<=sizeLine/\Ax xs if!
def FD:Value->Option V
 |.none=>some .non
 |.bool b=>some bl!
 |.int i _=>some ak_
 |.str x _=>some by_
 |.bytes b _=>some (.byt b)
 |.float b _=>some (.flt b)
 |.ref a=>some F!
 |.type n=>some (.ty n)
 |_=>none
def Bl.abs{x:V}{u:xT!}(r:Bl x u):FD u=some x:=by
 cases x with
 |non=>cases r;rfl
 |bl _=>cases r;rfl
 |int _=>obtain⟨t,rfl⟩:=r;rfl
 |str _=>obtain⟨t,rfl⟩:=r;rfl
 |byt _=>obtain⟨t,rfl⟩:=r;rfl
 |flt _=>obtain⟨t,rfl⟩:=r;rfl
 |ref _=>cases r;rfl
 |ty _=>cases r;rfl
def Bl.inj{x y:V}{u:xT!}(r:Bl x u)(q:Bl y u):x=y:=JX (r.abs.symm.trans q.abs)
def Ax.inj:∀{xs ys:m_} {us:g_},Ax xs us->Ax ys us->xs=ys
 |_,_,_,.nil,.nil=>rfl
 |_,_,_,.cons r t,.cons r' t'=>by rw[r.inj r',Ax.inj t t']
section
variable{X:Cx}{Y:List (Addr×Obj)}{Z:St}{H:Hp}{s:z6!}{a:xz!}{xs ys:List V}
def Fh.of{K:zY!}(h:H a=some Q_):Fh K H a xs:=.inl if_
def Fy.of{K:zY!}(h:H a=some bw_):Fy K H a xs:=.inl if_
def Inv.list(I:d!)(h:Fh X.K H a xs):∃its:List Value,Ax xs its/\PlainL s.heap a a1!/\i_<=sizeLine:=by
 obtain h|⟨o,its,n,hk,hc,hd,hs,hz,r⟩:=h
 .obtain⟨z,its,n,r,e⟩:=h.ok I.hok;exact⟨its,r,⟨_,n,e,rfl,rfl,rfl⟩,z⟩
 .refine⟨if!,r,⟨o,n,I.kIn a o hk,hc,hd,rg!⟩,?_⟩;have e:=aL_;simp only[KG]at e;omega
def Inv.tuple(I:d!)(h:Fy X.K H a xs):∃its:List Value,Ax xs its/\IsTup s.heap a a1!/\i_<=sizeLine:=by
 obtain h|⟨o,its,n,hk,hc,hs,hz,r⟩:=h
 .obtain⟨z,its,r,p⟩:=h.ok I.hok;exact⟨its,r,p,z⟩
 .refine⟨if!,r,⟨o,I.kIn a o hk,hc,n,rg!⟩,?_⟩;have e:=aL_;simp only[KG]at e;omega
def Inv.list_inj(I:d!)(h:Fh X.K H a xs)(h':Fh X.K H a ys):xs=ys:=by
 obtain⟨its,r,⟨o,n,e,_,_,d⟩,_⟩:=I.list h;obtain⟨its',r',⟨o',n',e',_,_,d'⟩,_⟩:=I.list h';rw[e]at e';cases e';rw[d]at d';injection d' with d1 _
 have:its=its':=by simpa using congrArg Array.toList d1
 subst this;exact r.inj r'
def Inv.tuple_inj(I:d!)(h:Fy X.K H a xs)(h':Fy X.K H a ys):xs=ys:=by
 obtain⟨its,r,⟨o,e,_,n,d⟩,_⟩:=I.tuple h;obtain⟨its',r',⟨o',e',_,n',d'⟩,_⟩:=I.tuple h';rw[e]at e';cases e';rw[d]at d';injection d' with d1 _
 have:its=its':=by simpa using congrArg Array.toList d1
 subst this;exact r.inj r'
end
abbrev Cx.wish(X:Cx)(E:l_):Cx:={X with xe:=E}
abbrev Cx.nox(X:Cx):Cx:=X.wish λ_ _=>False
def Cx.Ok.wish{X:Cx}(ok:X.Ok)(E:l_):(fW_).Ok:=
 ih_
def Cx.Ok.unwish{X:Cx}{E:l_}(ok:(fW_).Ok):X.Ok:=
 ih_
section
variable{X:Cx}{Y:List (Addr×Obj)}{Z:St}{H:Hp}{s:z6!}{E:Value->Shared->Prop}
def Inv.wish(I:d!)(E:l_):Inv fW_ Y Z H s:=⟨I.ok.wish E,I.os,I.bare,I.base,I.loc,I.cell,I.free,I.freeC,I.pin,I.hok,I.len⟩
def Inv.unwish(I:Inv fW_ Y Z H s):Inv X Y Z H s:=⟨I.ok.unwish,I.os,I.bare,I.base,I.loc,I.cell,I.free,I.freeC,I.pin,I.hok,I.len⟩
def SP.unwish{D:Sj}{f:Flow}{s':z6!}(h:SP fW_ Y D f s'):SP X Y D f s':=by
 cases f with
 |next=>obtain⟨ac,H',I,q⟩:=h;exact lV!
 |brk=>obtain⟨ac,H',I,q⟩:=h;exact lV!
 |cont=>obtain⟨ac,H',I,q⟩:=h;exact lV!
 |ret u=>obtain⟨v,ac,H',I,r,q⟩:=h;exact⟨v,ac,H',I.unwish,r,q⟩
def Ox.nox{st:by!}{t:TS}(h:Ox X.nox st t):Ox X st t:=λY s Z H D I hw=>
 KS (h Y s Z H D (I.wish _) hw) (λ_ _ q=>q.unwish) λ_ _ z=>False.elim z
end
section
variable{X:Cx}{st:Stmt}{rest:List Stmt}{t u:TS}{e:Expr}{te:TE}{pos:Pos}
def BD:TS:=λD Z H=>D.nx Z H
def EB(t u:TS):TS:=λD Z H=>t {D with nx:=u D} Z H
def a9u:Ox X [] BD:=λ_ _ Z H _ I h=>QI ⟨Z,H,I,h⟩
def tX(J:ij!)(h2:Ox X rest u):Ox X ij_ (EB t u):=by
 intro Y s Z H D I h;refine wpAny_execs_cons (cX (J Y s Z H {D with nx:=u D} I h) λf s1 q=>?_);cases f with
 |next=>
  obtain⟨ac,H',I',q⟩:=q;exact h2 Y s1 ac H' D I' q
 |ret v=>exact q
 |brk=>exact q
 |cont=>exact q
def gY(J:ij!):Ox X [st] t:=by
 intro Y s Z H D I h;refine wpAny_execs_cons (cX (J Y s Z H D I h) λf s1 q=>?_);cases f with
 |next=>exact QI q
 |ret v=>exact q
 |brk=>exact q
 |cont=>exact q
def Inv.quiet{Y:k_}{Z:St}{H:Hp}{s:z6!}(I:d!):interactive X.env=false:=by simp[interactive,I.ok.kind]
def BF(te:TE):TS:=λD Z H=>te Z H λ_ H1=>D.nx Z H1
def oE(he:ch!)(hs:lW!:=by rfl):PS X lW_ (BF te):=by intro Y s Z H D I h;exact wpAny_Expr_any (cX ch_ λv s1 ⟨x,H1,I1,r1,q1⟩=>⟨Z,H1,I1,q1⟩) I.quiet hs
def EC(te:TE):TS:=λD Z H=>te Z H D.rt
def a6v(he:ch!):PS X ik_ (EC te):=by intro Y s Z H D I h;exact wpAny_Return_some (cX ch_ λv s1 ⟨x,H1,I1,r1,q1⟩=>⟨x,Z,H1,I1,r1,q1⟩)
def AZ:TS:=λD _ H=>D.rt .non H
def c1u:PS X rk_ AZ:=λ_ _ Z H _ I h=>wpAny_Return_none ⟨.non,Z,H,I,rfl,h⟩
def EG(c:TT)(t u:TS):TS:=λD Z H=>c Z H λb H1=>if b=true then t D Z H1 else u D Z H1
def b5v{c:Expr}{a b:by!}{tc:TT}(hc:PT X c tc)(ha:Ox X a t)(hb:Ox X b u):PS X (.If c a b pos) (EG tc t u):=by
 intro Y s Z H D I h;refine wpAny_If rf_;cases d with
 |true=>exact ha Y s1 Z H1 D I1 q1
 |false=>exact hb Y s1 Z H1 D I1 q1
end
abbrev TG:=V->St->Hp->rn_->Prop
abbrev AE:=List V->St->Hp->rn_->Prop
def PG(X:Cx)(ur:Expr)(t:TG):Prop:=
 ∀(Y:k_) (s:z6!) (Z:St) (H:Hp) (v:V) (u:xT!) (Q:im_),Inv X Y Z H s->Bl v u->t v Z H Q->
  wpAny e! X.A (assign ur X.env u) rm_ X.xe s
def DO(X:Cx)(ts:bk_)(t:AE):Prop:=
 ∀(Y:k_) (s:z6!) (Z:St) (H:Hp) (vs:m_) (us:g_) (Q:im_),Inv X Y Z H s->Ax vs us->t vs Z H Q->
  wpAny e! X.A (assignInOrder ((assignEach ts X.env).map M!) us) rm_ X.xe s
abbrev Yi:=V->V->V->Hp->lX_->Prop
def Vw(X:Cx)(t:Yi):Prop:=
 ∀(Y:k_) (s:z6!) (Z:St) (H:Hp) (o i v:V) (ov iv u:xT!) (Q:Hp->Prop),Inv X Y Z H s->Bl o ov->Bl i iv->Bl v u->t o i v H Q->
  wpAny e! X.A (setItem ov iv u) (λ_ s'=>∃H',Inv X Y Z H' s'/\Q H') X.xe s
abbrev DK:=V->V->Hp->VK->Prop
def GJ(X:Cx)(op:Operator)(t:DK):Prop:=
 ∀(Y:k_) (s:z6!) (Z:St) (H:Hp) (x y:V) (v u:xT!) (Q:VK),Inv X Y Z H s->Bl x v->Bl y u->t x y H Q->
  wpAny e! X.A (inplaceOp op v u) aD! X.xe s
section
variable{X:Cx}{pos:Pos}
def No(i:Nat):TG:=λv Z H Q=>Q ej_ H
def bH{i:Nat}{x:Str}(hN:aT_)(hi:aa_)(hx:a2_)(hf:X.fn x=true\/X.env.scope.names.lookup x=some .local:=by first|exact .inl rfl|exact .inr rfl|assumption):PG X cN_ eo_:=by intro Y s Z H v u Q I r h;exact wpAny_assign_Name (nT I hN hi hx r (λs' I'=>⟨_,H,I',h⟩) hf)
def AA:AE:=λvs Z H Q=>vs=[]/\Q Z H
def Tn(t:TG)(u:AE):AE:=λvs Z H Q=>∃v r,vs=v::r/\t v Z H λac H'=>u r ac H' Q
def a9x:DO X [] AA:=by intro Y s Z H vs us Q I r h;obtain⟨e,h⟩:=h;subst e;cases r;exact assignInOrder_nil ⟨Z,H,I,h⟩
def oG{e:Expr}{es:bk_}{t:TG}{u:AE}(J:PG X e t)(h2:DO X es u)
  (hs:(assignEach aD_ X.env).map M!=assign e X.env::(lZ_).map M!:=by rfl):DO X aD_ (Tn t u):=by
 intro Y s Z H vs us Q I r h;obtain⟨v,vr,e1,h⟩:=h;subst e1;cases r with
 |cons r rr=>
  rw[hs];refine assignInOrder_cons (cX (J Y s Z H _ _ _ I r h) λ_ s1 ⟨bw,H1,I1,q1⟩=>?_);exact h2 Y s1 bw H1 _ _ Q I1 rr q1
def Zz(K:zY!)(n:Nat)(t:AE):TG:=λv Z H Q=>∃a xs,v=.ref a/\Fy K H a xs/\i_=n/\t xs Z H Q
def b6d{es:bk_}{k:Nat}{t:AE}{n:Nat}(hc:ay!)(h:DO X es t)
  (hn:(lZ_).length=n:=by rfl)(hst:(lZ_).findIdx? c_=none:=by rfl):PG X (.Tuple es k pos) (Zz X.K n t):=by
 intro Y s Z H v u Q I r hw;obtain⟨a,xs,e1,hq,hl,hw⟩:=hw;subst e1;cases r;obtain⟨its,rv,ht,hz⟩:=I.tuple hq;refine assign_Tuple_tuple a3_ ht (by simp[hn,<-hl,rv.length]) hst λh' hx=>?_;have I1:Inv X Y Z H {s with heap:=h'}:=I.kept (t':=s.toks) λb o e=>hx b o (JF cL!) e;exact h Y _ Z H xs _ Q I1 (by simpa using rv) hw
def FB(to ti:TE)(t:Yi):TG:=λv Z H Q=>to Z H λo H1=>ti Z H1 λi H2=>t o i v H2 λH3=>Q Z H3
def b6e{o:Expr}{to ti:TE}{t:Yi}(ho:PE X o to)(hi:PE X i ti)(hs:Vw X t)
  (ha:∀v,assign rp! X.env v=(do
   let ov <-holding [v] dw_
   let iv <-holding [v,ov] rq!
   standAt pos
   holding ep! l1_
   release ep! []):=by intro _;rfl):PG X rp! (FB to ti t):=by
 intro Y s Z H v u Q I r h;rw[ha];refine HM (JS (cX rr_ λov s1 ⟨x,H1,I1,r1,q1⟩=>?_));refine HM (JS (cX (hi Y s1 Z H1 _ I1 q1) λiv s2 ⟨y,H2,I2,r2,q2⟩=>?_));refine HM (RB (HM (JS (cX (hs Y s2 Z H2 x y v ov iv u _ I2 r1 r2 r q2) λ_ s3 ⟨H3,I3,q3⟩=>?_))));exact wpAny_release ⟨Z,H3,I3,q3⟩
def Zl(te:TE)(g:TG):TS:=λD Z H=>te Z H λx H1=>g x Z H1 D.nx
def b5x{tg e:Expr}{te:TE}{g:TG}(he:ch!)(hg:l2!)(hs:swapsWithSole [tg] e pos.line X.env=pure false:=by rfl)(hw:swappedStores [tg] e X.env=pure none:=by rfl)
  (J:(assignEach [tg] X.env).map M!=[assign tg X.env]:=by rfl):PS X (.Assign [tg] e pos) (Zl te g):=by
 intro Y s Z H D I h;refine wpAny_Assign_stores rs_ hs hw;rw[J];exact cX (hg Y s1 Z H1 x v _ I1 r1 q1) λ_ s2 q=>q
def tY{i:Nat}{x:Str}{e:Expr}{te:TE}{pos':Pos}(hN:aT_)(hi:aa_)(hx:a2_)(he:ch!)(hs:swapsWith e (some io_) pos.line X.env=pure false:=by rfl)(hf:X.fn x=true\/X.env.scope.names.lookup x=some .local:=by first|exact .inl rfl|exact .inr rfl|assumption):
  PS X (.Assign rt! e pos) (Zl te eo_):=by
 intro Y s Z H D I h;refine wpAny_Assign_Name (cX ch_ λv s1 ⟨y,H1,I1,r1,q1⟩=>?_) hs;exact nT I1 hN hi hx r1 (λs2 I2=>⟨_,H1,I2,q1⟩) hf
def EJ(i:Nat)(te:TE)(ti:DK):TS:=λD Z H=>∃x,Z[i]?=some bz!/\te Z H λy H1=>ti x y H1 λz H2=>D.nx (Z.set i (some z)) H2
def c6t{i:Nat}{x:Str}{e:Expr}{te:TE}{op:Operator}{ti:DK}{pos':Pos}(hN:aT_)(hi:aa_)(hx:a2_)(he:ch!)(ho:GJ X op ti)(hf:X.fn x=true\/X.env.scope.names.lookup x=some .local:=by first|exact .inl rfl|exact .inr rfl|assumption):
  PS X (.AugAssign io_ op e pos) (EJ i te ti):=by
 intro Y s Z H D I h;obtain⟨v,e1,h⟩:=h;obtain⟨m,hn,hl⟩:=I.loc;have VJ:Vu X.env.scope x:=by obtain k|k:=hx;exact .inl k;exact .inr (.inl k)
 obtain⟨u,r,l⟩:=hl i x v hi e1 VJ;refine wpAny_AugAssign_Name ?_;have go:wpAny e! X.A el! (λw ao=>wpAny e! X.A (inplaceOp op u w) (λr c8=>wpAny e! X.A (storeName X.env x r) (λ_=>SP X Y D .next) X.xe c8) X.xe ao) X.xe s:=by
  refine cX ch_ λw s1 ⟨y,H1,I1,r1,q1⟩=>?_;refine cX (ho Y s1 Z H1 v y u w _ I1 r r1 q1) λz s2 ⟨zv,H2,I2,r2,q2⟩=>?_;exact nT I2 hN hi hx r2 (λs3 I3=>⟨_,H2,I3,q2⟩) hf
 obtain⟨hk,hm⟩|⟨hk,c,hc,cf⟩:=l
 .exact wpAny_loadName_local I.ok.kind hk hn hm go
 .obtain hk|hk:=hk
  .exact wpAny_loadName_cell I.ok.kind hk hc cf go
  .obtain k|k:=hx
   .show"!c"
   .show"!c"
def GZ(f:l3_):DK:=λx y H Q=>∃i j,x=.int i/\y=.int j/\Q (.int (f i j)) H
def c8l:GJ X .Add (GZ λi j=>i+j):=by intro Y s Z H x y v u Q I r1 r2 h;obtain⟨i,j,e1,e2,q⟩:=h;subst e1;subst e2;obtain⟨t,rfl⟩:=r1;obtain⟨t',rfl⟩:=r2;exact iadd_int ip!
def Zk(c:TT)(tb:TS):TS:=λD Z H=>∃W:Nat->St->Hp->Prop,(∃m,W m Z H)/\∀m Z H,W m Z H->
 c Z H λb H1=>if b=true then∃N:St->Hp->Prop,(∀ac H',N ac H'->∃m',m'<m/\W m' ac H')/\tb {D with nx:=N,ct:=N,bk:=D.nx} Z H1 else D.nx Z H1
def b5t{c:Expr}{body:by!}{tc:TT}{tb:TS}(hp:fX!)(hc:PT X c tc)(hb:Ox X body tb):PS X rw_ (Zk tc tb):=by
 intro Y s Z H D I h;obtain⟨W,⟨m0,w0⟩,turn⟩:=h;refine wpAny_While (codeAny_whileLoop (λn s'=>∃ac H',Inv X Y ac H' s'/\W n ac H') ?_ m0 ⟨Z,H,I,w0⟩);rintro n s1 ⟨bw,H1,I1,w1⟩;refine OI hp (cX (hc Y s1 bw H1 _ I1 (turn n bw H1 w1)) λb s2 ⟨H2,I2,q2⟩=>?_);cases b with
 |true=>
  obtain⟨N,hN,q2⟩:=q2;rw[A!];refine OI hp (cX (hb Y s2 bw H2 _ I2 q2) λf s3 q3=>?_);cases f with
  |next=>
   show"!_"
  |cont=>
   show"!_"
  |brk=>exact q3
  |ret v=>exact q3
 |false=>
  rw[IF IV];exact QI ⟨bw,H2,I2,q2⟩
end
structure It where
 go:Nat->Hp->Prop
 yld:Nat->Hp->V->Hp->Prop
 stop:Nat->Hp->Prop
def Fx(X:Cx)(Y:k_)(H:Hp)(b:xz!):Prop:=
 H b=none/\b≠X.env.locals/\b∉X.fs/\h0!/\h0_/\∀p∈X.pn++Y,p.1≠b
def Inv.fpOk{X:Cx}{Y:k_}{Z:St}{H H':Hp}{s:z6!}{b:xz!}(I:d!)(hb:g!<=b)(hn:H' b=none):Fx X Y H' b:=by
 refine⟨hn,LO (IW I.lt hb),I.nofs hb,.inr (JM I.sz hb),λx c e z=>?_,λp hp z=>?_⟩
 .obtain⟨v,q⟩:=I.cell x c e;exact absurd (IW q.lt rz!) dr_
 .exact absurd (IW (IS (l5!).1) rz!) dr_
structure Sh(P:z7!)(w:yO!)(K:zY!)(tg:Expr)(af:It)(fp:I_)(it:xz!)(tn:dx_):Prop where
 mem:it∈fp
 obj:∀i h,tn i h->∀b∈fp,∃o,h.get? b=some o/\∀v,o.data≠.cell v
 keep:∀i h h',tn i h->(∀b∈fp,∀o,h.get? b=some o->h'.get? b=some o)->tn i h'
 item:∀(X:Cx),X.prog=P->X.w=w->X.K=K->X.calm=true->∀(i:Nat) (Y:k_) (s:z6!) (Z:St) (H:Hp) (E:l_),Inv X Y Z H s->l6!->tn i s.heap->af.go i H->
  wpAny C! X.A ip_ (λr s1=>∃u,r=some u/\
   wpAny C! X.A rA! (λ_ s2=>∃x H',Inv X Y Z H' s2/\Bl x u/\af.yld i H x H'/\tn ab_ s2.heap/\∀b∈fp,H' b=none) E s1) E s
 done:∀(X:Cx),X.prog=P->X.w=w->X.K=K->X.calm=true->∀(i:Nat) (Y:k_) (s:z6!) (Z:St) (H:Hp) (E:l_),Inv X Y Z H s->l6!->tn i s.heap->af.stop i H->
  wpAny C! X.A ip_ (λr s1=>r=none/\Inv X Y Z H s1) E s
 self:∀(A:x8!) (i:Nat) (s:z6!) (Q:l_) (E:l_),tn i s.heap->Q bS! s->wpAny C! A (pyIter bS!) Q E s
abbrev TI:=St->Hp->(It->Hp->Prop)->Prop
def DN(X:Cx)(Y:k_)(Z:St)(tg:Expr)(R:fY!)(ut:xT!)(s2:z6!):Prop:=
 ∃(it:xz!) (fp:I_) (tn:dx_) (af:It) (H':Hp),ut=.ref it/\Inv X Y Z H' s2/\Sh X.prog X.w X.K tg af fp it tn/\tn 0 s2.heap/\(∀b∈fp,Fx X Y H' b)/\R af H'
def PI(X:Cx)(tg iter:Expr)(wi:TI):Prop:=
 ∀(Y:k_) (s:z6!) (Z:St) (H:Hp) (R:fY!),Inv X Y Z H s->wi Z H R->
  wpAny e! X.A (eval iter X.env) (λv s1=>wpAny e! X.A (pyIter v) rB_ X.xe s1) X.xe s
def b8z{M:Model}{A:x8!}{E:l_}{s:z6!}{tg:Expr}{u:xT!}{o:Obj}{n:String}{vs:I!}{Q:cM!}(ho:s.heap.get? it=some o)(hc:o.cls=.type n)(hd:o.data=.fields vs)
  (hn:(rD!).contains n=false)(hQ:Q () s):wpAny M A rA! Q E s:=by
 unfold letOwnedTupleGo;cases tg<;>first
  |exact HP hQ
  |(cases u<;>first
    |exact HP hQ
    |(refine HM (wpAny_load ho ?_);rw[hc,hd];show wpAny M A (if((rD!).contains n&&vs[0]?==some (rawInt _))=true then _ else _) Q E s;rw[IF (by intro h;rw[hn,Bool.false_and]at h;cases h)];exact HP hQ))
def FI(K:zY!)(a:xz!):It:=
 ⟨λi H=>∃xs x,Fh K H a xs/\xs[i]?=some x,λi H x H'=>H'=H/\∀xs,Fh K H a xs->xs[i]?=some x,λi H=>∃xs,Fh K H a xs/\i_<=i⟩
def HK(K:zY!)(a:xz!):It:=
 ⟨λi H=>∃xs x,Fy K H a xs/\xs[i]?=some x,λi H x H'=>H'=H/\∀xs,Fy K H a xs->xs[i]?=some x,λi H=>∃xs,Fy K H a xs/\i_<=i⟩
def CO(lo:Int)(n:Nat):It:=⟨λi _=>i<n,λi H x H'=>H'=H/\x=.int (lo+i),λi _=>n<=i⟩
def b1u{P:z7!}{w:yO!}{K:zY!}{tg:Expr}(a it:xz!):Sh P w K tg (FI K a) [it] it (λi h=>h.IsListIter it a i) where
 mem:=by simp
 obj:=λi h st b hb=>by
  have e:b=it:=by simpa using hb
  subst e;show"!y"
 keep:=λi h h' st k=>st.at λo e=>k it b_ o e
 item:=by
  show"!0";obtain⟨xs,x,hq,hx⟩:=hg;obtain⟨its,rv,p,hz⟩:=I.list hq;obtain⟨u,hu,ru⟩:=rv.get hx;show"!3";refine wpAny_pyNext_list_item st p.isList (x:=u) rG! λh' σ sb=>?_;have I1:Inv X Y Z H {s with heap:=h'}:=I.turned (t':=s.toks) rG_ f0 f1 f3 f4 f5;obtain⟨o,e,c,d⟩:=id σ;exact⟨u,rfl,b8z (s:=l8!) e c d c! ⟨x,H,I1,ru,⟨rfl,λys hy=>by rw[I.list_inj hy hq];exact hx⟩,σ,l9_⟩⟩
 done:=by
  show"!0";obtain⟨xs,hq,hx⟩:=hg;obtain⟨its,rv,p,hz⟩:=I.list hq;show"!3";have hl:=ep_;exact wpAny_pyNext_list_end a3_ st p.isList a4! λh' eb=>mb!
 self:=λ_ _ _ _ _ st h=>wpAny_pyIter_listiter st h
def a6a{P:z7!}{w:yO!}{K:zY!}{tg:Expr}(it:xz!)(lo:Int)(n:Nat):Sh P w K tg (CO lo n) [it] it (λi h=>IsRangeIter h it (lo+(i:Nat)*1) ((n:Int) - (i:Nat)) 1) where
 mem:=by simp
 obj:=λi h st b hb=>by
  have e:b=it:=by simpa using hb
  subst e;exact⟨_,st,λv z=>by
   have z':Data.fields _=Data.cell v:=z;cases z'⟩
 keep:=λi h h' st k=>k it b_ _ st
 item:=by
  show"!0";show"!3";have W:=Walks.range (prog:=X.prog) (w:=X.w) a3_ it lo 1 n;refine W.item i s _ _ hg st λv h' tk hv σ kk=>?_;obtain⟨t,rfl⟩:=hv;show"!Z";refine⟨_,rfl,b8z (s:={s with heap:=h',toks:=tk}) (n:="range_iterator") σ rfl rfl c! ⟨.int (lo+i),H,I1,⟨t,?_⟩,aE!,σ,l9_⟩⟩;rw[Int.mul_one]
 done:=by
  show"!0";show"!3";exact wpAny_pyNext_range_end a3_ st (by have:n<=i:=hg;omega) λh' eb=>mb!
 self:=λ_ _ _ _ _ st h=>wpAny_pyIter_rangeiter st h
end L2
namespace L2
open PySem PySem.Spec PyProof.Rows
section
variable{X:Cx}{tg:Expr}
def CG(K:zY!)(tl:TE):TI:=λZ H R=>tl Z H λx H1=>∃a,x=.ref a/\(∃xs,Fh K H1 a xs)/\R (FI K a) H1
def FA(K:zY!)(tl:TE):TI:=λZ H R=>tl Z H λx H1=>∃a,x=.ref a/\(∃xs,Fy K H1 a xs)/\R (HK K a) H1
def a9w{l:Expr}{tl:TE}(hl:PE X l tl):PI X tg l (CG X.K tl):=by
 intro Y s Z H R I h;refine cX rJ_ λv s1 ⟨x,H1,I1,r1,q1⟩=>?_;obtain⟨a,e,⟨xs,hq⟩,q⟩:=q1;subst e;cases r1;obtain⟨its,rv,p,hz⟩:=I1.list hq;refine QW p.isList ?_;refine⟨y!,[y!],_,_,H1,rfl,mc_,b1u a _,eq!,ci_,q⟩;have e:b=y!:=by simpa using hb
 show"!g"
def a2z{Y:k_}{Z:St}{H:Hp}{s:z6!}{R:fY!}{E:l_}{lo hi:Int}{t u v:Tok}{tk:Nat}(I:d!)(J:-f0!<=lo)(h2:lo<2 ^ 62)(h3:-f0!<=hi)(h4:hi<2 ^ 62)
  (q:R (CO lo (md!).toNat) H):wpAny e! X.A (pyIter bl_) rB_ E {s with heap:=s.heap.push {cls:=.type "range",data:=.fields #[.int lo t,.int hi u,.int 1 v]},toks:=tk}:=by
 refine wpAny_pyIter_range (IsRange.new ..) (small_one J h2 h3 h4) ?_;have I1:Inv X Y Z H {s with heap:=s.heap.push {cls:=.type "range",data:=.fields #[.int lo t,.int hi u,.int 1 v]},toks:=tk}:=I.kept λb o e=>HU _ e;refine⟨(md_).objs.size,[(md_).objs.size],_,_,H,rfl,
  I1.kept (t':=tk) λb o e=>HU _ e,a6a _ lo (md!).toNat,?_,λb hb=>?_,q⟩
 .have e1:lo+f0_*1=lo:=by simp
  have e2:rO_ - f0_=Builtin.Range.rangeSize lo hi 1:=by rw[rangeSize_one];split<;>omega
  show IsRangeIter _ _ (lo+f0_*1) (rO_ - f0_) 1;rw[e1,e2];exact IK _ rfl
 .have e:b=(md_).objs.size:=by simpa using hb
  show"!g"
def CF(ta:TA):TI:=λZ H R=>ta Z H λvs H1=>∃j:Int,vs=[eq_]/\-f0!<=j/\j<2 ^ 62/\R (CO 0 j.toNat) H1
def CD(ta:TA):TI:=λZ H R=>ta Z H λvs H1=>∃i j:Int,vs=me!/\(-f0!<=i/\i<2 ^ 62/\-f0!<=j/\j<2 ^ 62)/\R (CO i (j - i).toNat) H1
def b2m{a:Expr}{ta:TA}{p pos:Pos}(hg:iu_)(hm:iv!)(ha:PA X [a] ta)(hs:rQ_:=by rfl):PI X tg rT_ (CF ta):=by
 intro Y s Z H R I h;refine Call_ (iP I hg hm boot_range (KO mf! hs rfl));obtain⟨j,e,q1,q2,q⟩:=q1;subst e;cases r1 with
 |cons r rr=>
  cases rr;obtain⟨t,rfl⟩:=r;exact call_range_1 (a2z I1 a! a! q1 q2 (by simpa using q))
def b2l{a b:Expr}{ta:TA}{p pos:Pos}(hg:iu_)(hm:iv!)(ha:PA X al! ta)(hs:rV!:=by rfl)(bn:rW!:=by rfl):
  PI X tg rW_ (CD ta):=by
 intro Y s Z H R I h;refine Call_ (iP I hg hm boot_range (KO mf! (by rw[hs,bn]) (by rw[bn];rfl)));obtain⟨i,j,e,⟨q1,q2,q3,q4⟩,q⟩:=q1;subst e;cases r1 with
 |cons r rr=>
  cases rr with
  |cons r' rr=>
   cases rr;obtain⟨t,rfl⟩:=r;obtain⟨t',rfl⟩:=r';exact call_range_2 (a2z I1 q1 q2 q3 q4 q)
def EH(wi:TI)(g:TG)(tb:TS):TS:=λD Z H=>wi Z H λaf H1=>∃W:Nat->Nat->St->Hp->Prop,(∃m,W 0 m Z H1)/\∀i m Z H,W i m Z H->
 (af.stop i H/\D.nx Z H)\/(af.go i H/\∃N:St->Hp->Prop,(∀ac H',N ac H'->∃m',m'<m/\W ab_ m' ac H')/\∀x H',af.yld i H x H'->g x Z H' λc9 H2=>tb {D with nx:=N,ct:=N,bk:=D.nx} c9 H2)
def Qf(fp:I_)(h:Heap):List ei!:=fp.filterMap λb=>(h.get? b).map λo=>(b,o)
def iO{fp:I_}{h:Heap}{b:xz!}{o:Obj}(hb:b∈fp)(e:qx_):(b,o)∈Qf fp h:=NS.mpr ⟨b,hb,by rw[e];rfl⟩
def b2z{fp:I_}{h:Heap}{p:Addr×Obj}(hp:p∈Qf fp h):p.1∈fp/\h.get? p.1=some p.2:=by
 obtain⟨b,hb,e⟩:=NS.mp hp;cases q:h.get? b with
 |none=>rw[q]at e;cases e
 |some o=>
  rw[q]at e;have e':(b,o)=p:=JX e;subst e';exact⟨hb,q⟩
def Inv.pinned{Y:k_}{Z:St}{H:Hp}{s:z6!}{fp:I_}(I:d!)(hf:∀b∈fp,Fx X Y H b)(ho:∀b∈fp,∃o,s.heap.get? b=some o/\∀v,o.data≠.cell v):Inv X (Y++Qf fp s.heap) Z H s:=
 I.pins_of λp hp=>(II.mp hp).elim (λz=>I.pin p ix!) λz=>by
  obtain⟨hb,e⟩:=b2z z;obtain⟨f0,f1,f2,_⟩:=hf p.1 hb;obtain⟨o,e',d⟩:=ho p.1 hb;rw[e]at e';cases e';exact⟨e,f0,f1,f2,d⟩
def Inv.unpinned{Y pl:k_}{Z:St}{H:Hp}{s:z6!}(I:Inv X (Y++pl) Z H s):Inv X Y Z H s:=I.pins_of λp hp=>I.pin p (HZ _ ix_)
def b5w{body:by!}{wi:TI}{g:TG}{tb:TS}{pos:Pos}(hp:fX!)(hc:ay!)(hi:mf_)(hg:l2!)(hb:Ox X body tb)
  (hs:cQ_:=by intro _;rfl):PS X rZ_ (EH wi g tb):=by
 intro Y s Z H D I h;refine wpAny_For (cX (hi Y s Z H _ I h) λv s1 J=>cX J λut s2 h2=>?_) hs;obtain⟨it,fp,tn,af,H2,e,I2,T,bj,f2,W,⟨m0,w0⟩,turn⟩:=h2;subst e;have mj:∀{H':Hp},f1!->∀b∈fp,Fx X Y H' b:=λhn b hb=>⟨hn b hb,(dz!).2⟩;refine codeAny_forLoop_any (λn s'=>∃i ac H',Inv X Y ac H' s'/\tn i s'.heap/\f1!/\W i n ac H') ?_ m0 ⟨0,Z,H2,I2,bj,r0_,w0⟩;rintro n s3 ⟨i,gi,H3,I3,uv,zo,w3⟩;obtain⟨stop,qn⟩|⟨go,N,hN,step⟩:=turn i n gi H3 w3
 .refine OI hp (cX (T.done X rfl rfl rfl hc i Y s3 gi H3 X.xe I3 (mj zo) uv stop) λr s4 ⟨hr,I4⟩=>?_);subst hr;exact QI ⟨gi,H3,I4,qn⟩
 .refine OI hp (cX (T.item X rfl rfl rfl hc i Y s3 gi H3 X.xe I3 (mj zo) uv go) λr s4 ⟨u,hr,h4⟩=>?_);subst hr;refine OI hp (cX h4 λ_ s5 ⟨x,H5,I5,r5,y5,ml,v5⟩=>?_);have v6:=I5.pinned (mj v5) r1!;refine OI hp (cX (hg _ s5 gi H5 x u _ v6 r5 r1_) λ_ s6 ⟨km,H6,I6,q6⟩=>?_);refine OI hp (cX (hb _ s6 km H6 _ I6 q6) λf s7 q7=>?_);have again:∀{ig:St} {H7:Hp},Inv X (Y++Qf fp s5.heap) ig H7 s7->N ig H7->∃m,m<n/\∃i ac H',Inv X Y ac H' s7/\tn i s7.heap/\f1!/\W i m ac H':=λ{ig H7} I7 n7=>by
   obtain⟨m',hm,w7⟩:=hN ig H7 n7;refine⟨m',hm,i+1,ig,H7,iy_,T.keep _ _ _ ml λb hb o e=>(r3!).1,ci_,w7⟩;obtain⟨o,e,d⟩:=T.obj _ _ ml b hb;exact(r3!).2.1
  cases f with
  |next=>obtain⟨ig,H7,I7,n7⟩:=q7;exact again I7 n7
  |cont=>obtain⟨ig,H7,I7,n7⟩:=q7;exact again I7 n7
  |brk=>obtain⟨ig,H7,I7,q7⟩:=q7;exact⟨ig,H7,iy_,q7⟩
  |ret v=>obtain⟨x7,ig,H7,I7,r7,q7⟩:=q7;exact⟨x7,ig,H7,iy_,r7,q7⟩
end
end L2
namespace L2
open PySem PySem.Spec PyProof.Rows
abbrev R2:=V->V->Hp->VK->Prop
def Gv(X:Cx)(f:er_)(r:R2):Prop:=
 ∀(Y:k_) (s:z6!) (Z:St) (H:Hp) (x y:V) (v u:xT!) (Q:VK),Inv X Y Z H s->Bl x v->Bl y u->r x y H Q->
  wpAny e! X.A (f v u) aD! X.xe s
def FF(X:Cx)(f:r4!)(r:mh!):Prop:=
 ∀(Y:k_) (s:z6!) (Z:St) (H:Hp) (x:V) (v:xT!) (Q:VK),Inv X Y Z H s->Bl x v->r x H Q->
  wpAny e! X.A (f v) aD! X.xe s
def Ir(X:Cx)(f:xT!)(r:dA!):Prop:=
 ∀(Y:k_) (s:z6!) (Z:St) (H:Hp) (xs:m_) (us:g_) (Q:VK),Inv X Y Z H s->Ax xs us->r xs H Q->
  wpAny e! X.A (call f us) aD! X.xe s
def FG(X:Cx)(r:V->Hp->qX_->Prop):Prop:=
 ∀(Y:k_) (s:z6!) (Z:St) (H:Hp) (x:V) (v:xT!) (Q:du_),Inv X Y Z H s->Bl x v->r x H Q->
  wpAny e! X.A lQ! ib! X.xe s
def AN(r:R2)(ta tb:TE):TE:=λZ H Q=>ta Z H λx H1=>tb Z H1 λy H2=>r x y H2 Q
def GT(r:mh!)(ta:TE):TE:=λZ H Q=>ta Z H λx H1=>r x H1 Q
nonrec def rI(C:mi!)(g:iz!):R2:=λx y H Q=>∃i j,x=.int i/\y=.int j/\C i j/\Q bm! H
def Rs(g:iz!):R2:=λx y H Q=>∃i j,x=.int i/\y=.int j/\Q bm! H
nonrec def rU(g:Int->V):V->Hp->VK->Prop:=λx H Q=>∃i,x=.int i/\Q (g i) H
section
variable{X:Cx}{a b c:Expr}{ta tb tc:TE}{pos:Pos}
def c9v(ha:aU!)(hb:cf!){Y:k_}{s:z6!}{Z:St}{H:Hp}{R:q1_}(I:d!)
  (h:q2!){Q:l_}{f:er_}
  (hf:q3!):
  wpAny e! X.A lK_ q4! X.xe s:=by
 show"!;"
def a9y{op:Operator}{r:R2}(ho:mj_)(ha:aU!)(hb:cf!):PE X mk! iz_:=by intro Y s Z H Q I h;exact wpAny_BinOp r5!
def d0u{op:UnaryOp}{r:mh!}(ho:FF X (unaryOp op) r)(ha:aU!):PE X (.UnaryOp op a pos) (GT r ta):=by intro Y s Z H Q I h;exact UnaryOp_ (cX bR_ λv s1 ⟨x,H1,I1,r1,q1⟩=>ho Y s1 Z H1 x v Q I1 r1 q1)
def opI{f:er_}{C:mi!}{g:l3_}
  (rule:∀(i j:Int) (t u:Tok) (s:z6!) (Q:l_) (E:l_),C i j->Q r6! {s with toks:=s.toks+1}->wpAny e! X.A mk_ Q E s):
  Gv X f (rI C λi j=>.int bm!):=by
 intro Y s Z H x y v u Q I rx ry h;obtain⟨i,j,rfl,rfl,hc,q⟩:=h;show"!>";obtain⟨t',rfl⟩:=ry;exact rule i j t t' s _ _ hc r7!
def d1a{f:er_}{g:l3_}
  (rule:∀(i j:Int) (t u:Tok) (s:z6!) (Q:l_) (E:l_),Q r6! {s with toks:=s.toks+1}->wpAny e! X.A mk_ Q E s):
  Gv X f (Rs λi j=>.int bm!):=by
 show"!H";exact rule i j t t' s _ _ r7!
def c2j{f:er_}{g:ml!}
  (rule:∀(i j:Int) (t u:Tok) (s:z6!) (Q:l_) (E:l_),Q (.bool bm!) s->wpAny e! X.A mk_ Q E s):
  Gv X f (Rs λi j=>.bl bm!):=by
 show"!H";exact rule i j t t' s _ _ ⟨.bl bm!,H,I,rfl,q⟩
def AK(i j:Int):Prop:=0<j/\j<1073741824
def AJ(i j:Int):Prop:=0<=j/\j<=1000000/\cR!<2 ^ 64
def Xh(i j:Int):Prop:=(-iA!<i/\i<2 ^ 64)\/(-iA!<j/\j<2 ^ 64)
def Xh.ok{i j:Int}(h:Xh i j):IntMulOk i j:=by
 obtain⟨J,h2⟩|⟨J,h2⟩:=h
 .exact .of_left r8!
 .exact .of_right r8!
def c7h:Gv X es! (Rs λi j=>.int (i+j)):=d1a λ_ _ _ _ _ _ _ q=>add_int q
def lF:Gv X (binaryOp .Sub) r9!:=d1a λ_ _ _ _ _ _ _ q=>sub_int q
def jY:Gv X r9_ ml_:=opI λ_ _ _ _ _ _ _ hc q=>mul_int q hc.ok
def mH:Gv X (binaryOp .FloorDiv) mm!:=opI λi j _ _ _ _ _ hc q=>by
 have J:(0:Int)<j:=hc.1;have h2:j<1073741824:=hc.2;exact floordiv_int a! (by rw[Int.fdiv_eq_ediv_of_nonneg i a!];exact q) (.inl (PyProof.noPylong_small a!))
def eB:Gv X (binaryOp .Mod) mn_:=opI λi j _ _ _ _ _ hc q=>by
 have J:(0:Int)<j:=hc;exact mod_int' a! (by rw[Int.fmod_eq_emod_of_nonneg i a!];exact q)
def b6r:Gv X (binaryOp .Pow) mo_:=opI λ_ _ _ _ _ _ _ hc q=>pow_int_small hc.1 hc.2.1 hc.2.2 q
def unI{f:r4!}{g:iB_}
  (rule:∀(i:Int) (t:Tok) (s:z6!) (Q:l_) (E:l_),Q (.int (g i) s.toks) {s with toks:=s.toks+1}->wpAny e! X.A (f dp_) Q E s):
  FF X f (rU λi=>.int (g i)):=by
 intro Y s Z H x v Q I rx h;obtain⟨i,rfl,q⟩:=h;show"!>";exact rule i t s _ _ ⟨.int (g i),H,aU_,L_,q⟩
def c5y:FF X (unaryOp .USub) (rU λi=>.int (-i)):=unI λ_ _ _ _ _ q=>neg_int q
end
def EN:V->V->Bool
 |.non,.non=>true|.non,.int _=>true|.int _,.non=>true|.non,.bl _=>true|.bl _,.non=>true|.non,.str _=>true|.str _,.non=>true
 |.int _,.int _=>true|.bl _,.bl _=>true|.str _,.str _=>true|.byt _,.byt _=>true
 |.int _,.str _=>true|.str _,.int _=>true|.bl _,.str _=>true|.str _,.bl _=>true
 |_,_=>false
def FV:R2:=λx y H Q=>EN x y=true/\Q (.bl (!decide (x=y))) H
def b1g{i j:Int}:decide (V.int i=V.int j)=(i==j):=by rw[LR];simp
def c9e{i j:Bool}:decide (V.bl i=V.bl j)=(i==j):=by rw[LR];simp
def b1f:decide (V.str i=V.str j)=(i==j):=by rw[LR];simp
def c4e{i j:Array UInt8}:decide (V.byt i=V.byt j)=(i.toList==j.toList):=by rw[LR];cases i;cases j;simp
section
variable{X:Cx}{a b c:Expr}{ta tb tc:TE}{pos:Pos}
def eE{Y:k_}{Z:St}{H:Hp}{s:z6!}{Q:VK}{k k':Bool}(I:d!)(q:Q (.bl k) H)(e:k=k'):EP X Y Z Q (.bool k') s:=by subst e;exact⟨.bl k,H,I,rfl,q⟩
def xH:Gv X sc_ FV:=by
 intro Y s Z H x y v u Q I rx ry h;obtain⟨hs,q⟩:=h;cases x with
 |non=>
  cases rx;cases y with
  |non=>cases ry;exact PySem.EqNone.ne_none_none bz_
  |bl j=>cases ry;exact PySem.EqNone.ne_none_bool bz_
  |int j=>obtain⟨t',rfl⟩:=ry;exact PySem.EqNone.ne_none_int bz_
  |str j=>obtain⟨t',rfl⟩:=ry;exact PySem.EqNone.ne_none_str bz_
  |_=>exact absurd es_ IV
 |bl i=>
  cases rx;cases y with
  |non=>cases ry;exact PySem.EqNone.ne_bool_none bz_
  |bl j=>cases ry;exact ne_bool (eE I q (congrArg not c9e))
  |str j=>obtain⟨t',rfl⟩:=ry;exact PySem.EqMixed.ne_bool_str bz_
  |_=>exact absurd es_ IV
 |int i=>
  obtain⟨t,rfl⟩:=rx;cases y with
  |non=>cases ry;exact PySem.EqNone.ne_int_none bz_
  |int j=>obtain⟨t',rfl⟩:=ry;exact ne_int (eE I q (congrArg not b1g))
  |str j=>obtain⟨t',rfl⟩:=ry;exact PySem.EqMixed.ne_int_str bz_
  |_=>exact absurd es_ IV
 |str i=>
  obtain⟨t,rfl⟩:=rx;cases y with
  |non=>cases ry;exact PySem.EqNone.ne_str_none bz_
  |bl j=>cases ry;exact PySem.EqMixed.ne_str_bool bz_
  |int j=>obtain⟨t',rfl⟩:=ry;exact PySem.EqMixed.ne_str_int bz_
  |str j=>obtain⟨t',rfl⟩:=ry;exact ne_str (eE I q (congrArg not b1f))
  |_=>exact absurd es_ IV
 |byt i=>
  obtain⟨t,rfl⟩:=rx;cases y with
  |byt j=>obtain⟨t',rfl⟩:=ry;exact W.ne_bytes (eE I q (congrArg not c4e))
  |_=>exact absurd es_ IV
 |_=>cases y<;>exact absurd es_ IV
def b0j:Gv X (compareOp .Lt) mq!:=c2j λ_ _ _ _ _ _ _ q=>lt_int q
def d0x:Gv X mq_ (Rs λi j=>.bl mr!):=c2j λ_ _ _ _ _ _ _ q=>le_int q
def b6s:Gv X se! ms!:=c2j λ_ _ _ _ _ _ _ q=>gt_int q
def d0z:Gv X (compareOp .GtE) ms_:=c2j λ_ _ _ _ _ _ _ q=>ge_int q
def a6z:Gv X (compareOp .Is) sf_:=by
 intro Y s Z H x y v u Q I rx ry h;obtain⟨rfl,q⟩:=h;cases ry;refine is_none_gen (eE I q ?_);cases x<;>first
  |(cases rx;rfl)
  |(obtain⟨t,rfl⟩:=rx;rfl)
def oJ:Gv X (compareOp .IsNot) sg_:=by
 intro Y s Z H x y v u Q I rx ry h;obtain⟨rfl,q⟩:=h;cases ry;refine isnot_none_gen (eE I q ?_);cases x<;>first
  |(cases rx;rfl)
  |(obtain⟨t,rfl⟩:=rx;rfl)
def Gv.or{f:er_}{r r':R2}(h:Gv X f r)(h':Gv X f r'):Gv X f sh!:=by
 intro Y s Z H x y v u Q I rx ry q;obtain q|q:=q
 .exact h Y s Z H x y v u Q I rx ry q
 .exact h' Y s Z H x y v u Q I rx ry q
def aQ(b:Expr){op:CmpOp}(h:op≠.In:=by decide)(h2:op≠.NotIn:=by decide):behindInMarks op b=false:=by
 have e1:ra_=false:=by cases op<;>first|rfl|exact absurd rfl h
 have e2:rb!=false:=by cases op<;>first|rfl|exact absurd rfl h2
 cases b<;>simp[behindInMarks,e1,e2]
def b0e{op:CmpOp}{r:R2}(ho:bT!)(ha:aU!)(hb:cf!)(hm:dv_):PE X dw! iz_:=by intro Y s Z H Q I h;exact wpAny_Compare1 r5! hm
def Yp(t:TE):TT:=λZ H Q=>t Z H λx H'=>∃k,x=.bl k/\Q k H'
def a9t{op:CmpOp}{r:R2}(ho:bT!)(ha:aU!)(hb:cf!)(hm:dv_):PT X dw! (Yp iz_):=by
 intro Y s Z H Q I h;refine RL (cX bR_ λv s1 ⟨x,H1,I1,r1,q1⟩=>cX fT_ λu s2 ⟨y,H2,I2,r2,q2⟩=>
  cX mt_ λc s3 ⟨z,H3,I3,r3,k,e,q3⟩=>?_) hm
 subst e;cases r3;exact JW ⟨H3,I3,q3⟩
def Wf(r r':R2)(ta tb tc:TE):TE:=λZ H Q=>ta Z H λx H1=>tb Z H1 λy H2=>r x y H2 λz H3=>∃k,z=.bl k/\
 (if k=true then tc Z H3 λw' H4=>r' y w' H4 Q else Q ab! H3)
def b6l{op eh:CmpOp}{r r':R2}(ho:bT!)(d9:iD!)(ha:aU!)(hb:cf!)(hc:PE X c tc)
  (hm:iD_:=by with_unfolding_all rfl):PE X iE! sk!:=by
 intro Y s Z H Q I h;refine Compare_chain (cX bR_ λv s1 ⟨x,H1,I1,r1,q1⟩=>chain_link (cX fT_ λu s2 ⟨y,H2,I2,r2,q2⟩=>
  cX mt_ λd s3 ⟨z,H3,I3,r3,k,e,q3⟩=>?_)) hm
 subst e;cases r3;refine JW ?_;cases k with
 |false=>exact ite_ff ⟨.bl false,H3,I3,rfl,q3⟩
 |true=>exact ite_tt (chain_last (cX sk_ λw' s4 ⟨z',H4,I4,r4,q4⟩=>d9 Y s4 Z H4 y z' u w' Q I4 r2 r4 q4))
def b5s{op eh:CmpOp}{r r':R2}(ho:bT!)(d9:iD!)(ha:aU!)(hb:cf!)(hc:PE X c tc)
  (hm:iD_:=by with_unfolding_all rfl):PT X iE! (Yp sk!):=by
 intro Y s Z H Q I h;refine isTrue_chain (cX bR_ λv s1 ⟨x,H1,I1,r1,q1⟩=>test_link (cX fT_ λu s2 ⟨y,H2,I2,r2,q2⟩=>
  cX mt_ λd s3 ⟨z,H3,I3,r3,k,e,q3⟩=>?_)) hm
 subst e;cases r3;refine JW ?_;cases k with
 |false=>
  obtain⟨k',e',q'⟩:=q3;cases e';exact ite_ff ⟨H3,I3,q'⟩
 |true=>
  refine ite_tt (test_last (cX sk_ λw' s4 ⟨z',H4,I4,r4,q4⟩=>cX (d9 Y s4 Z H4 y z' u w' _ I4 r2 r4 q4) λd' s5 ⟨z2,H5,I5,r5,k2,e2,q5⟩=>?_));subst e2;cases r5;exact JW ⟨H5,I5,q5⟩
def CK(K:zY!)(x:V)(H:Hp)(k:Bool):Prop:=
 match x with
 |.non=>k=false
 |.bl b=>k=b
 |.int i=>k=f4!
 |.str y=>cj!<=sizeLine/\k=((cj!:Int) != 0)
 |.byt y=>y.size<=sizeLine/\k=((y.size:Int) != 0)
 |.ref p=>(∃xs,Fh K H p xs/\k=! dC!)\/(∃xs,Fy K H p xs/\k=! dC!)\/∃h1,H p=some dC_/\k=! mu!
 |_=>False
def a8b{κ:Type}{h1:f5!}{vs:List lg!}(r:KV h1 vs):(!vs.isEmpty)=! mu!:=by cases r<;>rfl
def vB{xs:m_}{its:g_}(r:Ax xs its):(! mu_)=! dC!:=by cases r<;>simp
def qP:(sizeLine:Nat)<2 ^ 63:=by rw[KH];decide
def c6a:FG X (λx H Q=>∃k,CK X.K x H k/\Q k H):=by
 intro Y s Z H x v Q I rx h;obtain⟨k,e,q⟩:=h;have hl:=qP;have hs:sizeLine=16777216:=KH;cases x with
 |non=>
  cases rx;have e':k=false:=e;subst e';exact truthy_none mv!
 |bl b=>
  cases rx;have e':k=b:=e;subst e';exact JW mv!
 |int i=>
  show"!>";have e':k=f4!:=e;subst e';exact PySem.P.truthy_int mv!
 |str y=>
  show"!>";obtain⟨hy,e'⟩:cj!<=sizeLine/\k=((cj!:Int) != 0):=e;subst e';exact PySem.P.truthy_str a! ⟨H,aU_,q⟩
 |byt y=>
  show"!>";obtain⟨hy,e'⟩:y.size<=sizeLine/\k=((y.size:Int) != 0):=e;subst e';exact W.truthy_bytes a! ⟨H,aU_,q⟩
 |ref p=>
  cases rx;have e':(∃xs,Fh X.K H p xs/\k=! dC!)\/(∃xs,Fy X.K H p xs/\k=! dC!)\/∃h1,H p=some dC_/\k=! mu!:=e;obtain⟨xs,hx,e'⟩|⟨xs,hx,e'⟩|⟨h1,hx,e'⟩:=e'
  .subst e';obtain⟨its,r,pl,hz⟩:=I.list hx;have av:=aL_;exact wpAny_truthy_list pl.isList iF_ sn_
  .subst e';obtain⟨its,r,pl,hz⟩:=I.tuple hx;have av:=aL_;exact truthy_tuple pl iF_ sn_
  .subst e';obtain⟨hz,hS,vs,r,m⟩:ax_<=sizeLine/\(p==sysModules)=false/\∃vs,KV h1 vs/\s.heap.DictOf (mixKind X.prog X.w) p vs:=I.hok p _ hx;have av:ax_=a4_:=NT r;exact wpAny_truthy_dict hS m a! ⟨H,aU_,by rw[a8b r];exact q⟩
 |_=>exact(so_).elim
def b5q(ha:aU!)(he:∀dz,isTrue a X.env dz=(do let v <-dz;standAt a.pos;holding [v] lQ!)):
  PT X a (λZ H Q=>ta Z H λx H'=>∃k,CK X.K x H' k/\Q k H'):=by
 show"!F";exact isTrue_plain (cX bR_ λv s1 ⟨x,H1,I1,r1,q1⟩=>c6a Y s1 Z H1 x v Q I1 r1 q1) (he _)
def a7a:Gv X es! (λx y H Q=>∃i j,x=.str i/\y=.str j/\i.length+j.length<=sizeLine/\Q (.str (i++j)) H):=by intro Y s Z H x y v u Q I rx ry h;obtain⟨i,j,rfl,rfl,hz,q⟩:=h;obtain⟨t,rfl⟩:=rx;obtain⟨t',rfl⟩:=ry;exact add_str (λt' tk=>⟨.str (i++j),H,aU_,L_,q⟩) hz
def mT{x:V}(r:Ax [x] us):∃u,us=[u]/\Bl x u:=by
 cases r with
 |cons r1 r2=>cases r2;exact⟨_,rfl,r1⟩
def wS{x y:V}(r:Ax [x,y] us):∃u w',us=[u,w']/\Bl x u/\Bl y w':=by
 cases r with
 |cons r1 r2=>
  cases r2 with
  |cons r3 r4=>cases r4;exact⟨_,_,rfl,r1,r3⟩
def c0l:Ir X sp! sp_:=by intro Y s Z H xs us Q I r h;obtain⟨i,rfl,q⟩:=h;obtain⟨u,rfl,t,rfl⟩:=mT r;exact call_abs_int λu tk=>⟨.int iG_,H,aU_,L_,q⟩
def c0i:Ir X sq_ ss!:=by intro Y s Z H xs us Q I r h;obtain⟨x,rfl,hz,q⟩:=h;obtain⟨u,rfl,t,rfl⟩:=mT r;exact ord_of_one hz ip!
def AG(K:zY!)(x:V)(H:Hp)(n:Nat):Prop:=
 match x with
 |.str y=>cj!<=sizeLine/\n=cj!
 |.byt y=>y.size<=sizeLine/\n=y.size
 |.ref p=>(∃xs,Fh K H p xs/\n=i_)\/∃xs,Fy K H p xs/\n=i_
 |_=>False
def cO:Ir X ss_ (λxs H Q=>∃x n,xs=[x]/\AG X.K x H n/\Q f5_ H):=by
 intro Y s Z H xs us Q I r h;obtain⟨x,n,rfl,e,q⟩:=h;obtain⟨u,rfl,rx⟩:=mT r;have hl:=qP;have hs:sizeLine=16777216:=KH;cases x with
 |str y=>
  show"!>";obtain⟨hy,e'⟩:cj!<=sizeLine/\n=cj!:=e;subst e';exact len_str a! ip!
 |byt y=>
  show"!>";obtain⟨hy,e'⟩:y.size<=sizeLine/\n=y.size:=e;subst e';exact W.len_bytes a! ip!
 |ref p=>
  cases rx;have e':(∃xs,Fh X.K H p xs/\n=i_)\/∃xs,Fy X.K H p xs/\n=i_:=e;obtain⟨xs,hx,e'⟩|⟨xs,hx,e'⟩:=e'
  .subst e';obtain⟨its,r',pl,hz⟩:=I.list hx;have av:=iH!;exact Calls.call_len_list pl.isList iF_ st_
  .subst e';obtain⟨its,r',pl,hz⟩:=I.tuple hx;have av:=iH!;exact len_tuple pl iF_ st_
 |_=>exact(so_).elim
end
end L2
namespace L2
open PySem PySem.Spec PyProof.Rows
structure Um(h:Heap)(x dx C:xz!)(mA:x!):Prop where
 obj:h.get? x=some lh_
 ns:h.Ns1 dx mA
 ne:dx≠x
def b3j{h:Heap}{dx:xz!}{mA:x!}(n:h.Ns1 dx mA):∃od,h.get? dx=some od/\∀name,W.lookIn name od=some (mA name):=by
 obtain⟨o,es,ep,ho,hd,hk,_,hm⟩:=n;refine⟨o,ho,λname=>?_⟩;have e:=hm name;unfold nsFind findBy at e;rw[<-Array.find?_toList]at e;unfold W.lookIn;rw[hd];dsimp only;split
 .rename_i y q;rw[q]at e;exact congrArg some e
 .rename_i q;rw[q]at e;have a:es.toList.any (·.refKey)=false:=by
   rw[List.any_eq_false];intro y hy;obtain⟨z,t,VL⟩:=hk y (Array.mem_toList_iff.mp hy);simp[DictEntry.refKey,VL]
  have a':¬es.toList.any (·.refKey)=true:=by rw[a];exact IV
  rw[IF a'];exact congrArg some e
def Um.look{h:Heap}{x dx C:xz!}{mA:x!}(I:Um h x dx C mA):∃od,W.InstAt h x lh_ C (some od)/\∀name,W.lookIn name od=some (mA name):=
 let⟨od,ho,hl⟩:=b3j I.ns
 ⟨od,⟨I.obj,rfl,rfl,ho⟩,hl⟩
section
variable{prog:z7!}{w:yO!}{A:x8!}{E:Value->Shared->Prop}{s:z6!}{K:zY!}{x dx C f:xz!}{mA:Str->Option Value}{name:Str}{v:xT!}
def c3o{expr:Bool}{Q:l_}(X:f6_)(I:mw_)(hg:su_)(hh:sv!)
  (ha:W.findIn K W! name=some none)(hv:mA name=some v)(v7:W.handedIn v=true)(h:Q v {s with toks:=s.toks+1}):
  wpAny o_ A (getAttr fI! name expr) Q E s:=by
 show"#6";exact W.get_value X af (mx!).1 (W.findObj_own hh ha rfl (by rw[hl,hv])) v7 h
def b9b{pl:eu!}{Q:sw!}(X:f6_)(I:mw_)(hg:su_)
  (hf:W.findIn K W! name=some eu_)(ht:mx_)(hv:mA name=none)(h:Q (.ref f,[.ref x]) s):
  wpAny o_ A (getMethod fI! name pl) Q E s:=by
 show"#6";exact W.method_fn X af (mx!).1 (mx!).2 hf (NZ.mp ht) (by show(W.lookIn name od).map (·.isSome)=some false;rw[hl,hv];rfl) h
def c1g{ns:o!}{Q:cM!}(X:f6_)(I:mw_)
  (hs:W.findIn K W! "__setattr__"=some sx!)(hp:W.plainOver K C=true)(ht:W.takerIn K C name=some none)(hh:sv!)
  (hw:PySem.Within mA ns)(hsz:sy_)
  (h:∀h',Um h' x dx C (λy=>if y=name then some v else mA y)->Heap.SameBut dx s.heap h'->Q () {s with heap:=h',toks:=s.toks+2}):
  wpAny o_ A (setAttr fI! name v) Q E s:=by
 show"#6";refine W.set_plain X af hs (W.osa_open (s:=my!) (r:=none) X af hp ht λb=>?_);obtain⟨cd,hc,mi⟩:=W.any_some hh;have hx:s.heap.get? x=some ⟨.ref C,some dx,.plain,#[]⟩:=I.obj;refine HM (HP (HM (HM (SC hx (HM (W.Looks.here (s:=my!) (W.looks_clsIn X hc) ?_))))));rw[mi];refine HP (a:=some dx) (HM (HP f7!));refine wpAny_nsSet1 (s:=my!) I.ns λh' g6 bn=>?_;obtain⟨oD,esD,epD,v8,v9,VM⟩:=g6.count (PySem.Within.cons name v hw);refine HM (wpAny_lookBehind v8 (by rw[v9];exact pastItsLine_dict (JM VM (by rw[IH];omega))) ?_);exact HP (h _ ⟨(bn.2 _ (JE I.ne)).trans I.obj,g6,I.ne⟩ bn)
def b7w{R:sC!}{kw:dD!}(X:f6_)(hm:sC_)
  (hi:sD!)(hf:W.typeIn K af_=some (.type "function"))
  (h:codeAny o_ (A.under (.builtin "type.__call__" ⟨.ref C::vs,kw⟩)) (.call af_ ⟨.ref ac!::vs,kw⟩) (W.InitBack ac! R)
   {s with heap:=(ev!).push iI_}):
  codeAny o_ A (.call W! ⟨vs,kw⟩) R s:=by
 obtain⟨hh,g,d,t,os⟩:=s;exact W.make_core (W.makes_of X hm) (W.looks_findIn X hi) (λself=>W.bind_fn X self hf) aj_ h
end
def Ko(f:Str)(v:V):List dq!->List dq!
 |[]=>[(f,v)]
 |(g,x)::r=>if g=f then(g,v)::r else(g,x)::Ko f v r
def rK(f g:Str)(v:V):∀fs:List dq!,(iJ!).lookup g=if g=f then some v else fs.lookup g
 |[]=>by
  show List.lookup g [(f,v)]=_;by_cases h:g=f
  .have hb:(g==f)=true:=NZ.mpr h;simp only[List.lookup,hb,IB h]
  .have hb:(g==f)=false:=KN.mpr h;simp only[List.lookup,hb,IF h]
 |(k,x)::r=>by
  have ih:=rK f g v r;rw[my_];by_cases hk:k=f
  .rw[a5!];by_cases h:g=k
   .have hb:(g==k)=true:=NZ.mpr h;simp only[List.lookup,hb,IB (h.trans hk)]
   .have hb:(g==k)=false:=KN.mpr h;simp only[List.lookup,hb,IF (λe:g=f=>h (e.trans hk.symm))]
  .rw[a6!];by_cases h:g=k
   .have hb:(g==k)=true:=NZ.mpr h;simp only[List.lookup,hb,IF (λe:g=f=>hk (h.symm.trans e))]
   .have hb:(g==k)=false:=KN.mpr h;simp only[List.lookup,hb];exact ih
def qQ(f:Str)(v:V):∀fs:List dq!,f∈(iJ!).map c_/\∀g,g∈fs.map c_->g∈(iJ!).map c_
 |[]=>⟨by simp[Ko],λg h=>by simp at h⟩
 |(k,x)::r=>by
  obtain⟨i1,i2⟩:=qQ f v r;rw[my_];by_cases hk:k=f
  .rw[a5!];subst hk;exact⟨Q!,λg h=>by simpa using h⟩
  .rw[a6!];refine⟨?_,λg h=>?_⟩
   .rw[IE];exact HS _ i1
   .rw[IE]at h ⊢;obtain e|e:=HV.mp h
    .exact HV.mpr (.inl e)
    .exact HS _ (i2 g e)
def rN(f:Str)(v:V):∀fs:List dq!,(iJ!).length<=bj_+1
 |[]=>by simp[Ko]
 |(k,x)::r=>by
  have ih:=rN f v r;rw[my_];by_cases hk:k=f
  .rw[a5!,IH,IH];omega
  .rw[a6!,IH,IH];omega
def Nt.some_of{v:V}{o:iK!}(r:Nt a2! o):∃u,o=some u/\Bl v u:=by
 cases o with
 |none=>exact(iK_).elim
 |some u=>exact⟨u,rfl,r⟩
def Nt.none_of{o:iK!}(r:Nt none o):o=none:=by
 cases o with
 |none=>rfl
 |some u=>exact(iK_).elim
def b3r{v:V}{u:xT!}(r:a3!):W.handedIn u=true:=by
 cases v with
 |non=>cases (show u=ce_ from r);rfl
 |bl b=>cases (show u=Value.bool b from r);rfl
 |int i=>obtain⟨t,e⟩:=sH!;cases e;rfl
 |str x=>obtain⟨t,e⟩:=sH_;cases e;rfl
 |byt b=>obtain⟨t,e⟩:=(show∃t,u=Value.bytes b t from r);cases e;rfl
 |flt b=>obtain⟨t,e⟩:=(show∃t,u=Value.float b t from r);cases e;rfl
 |ref a=>cases (show u=Value.ref a from r);rfl
 |ty n=>cases (show u=Value.type n from r);rfl
section
variable{P:z7!}{w:yO!}{H H':Hp}{h h':Heap}{a C dx:xz!}{fs fs':List (Str×V)}
def a1f(hok:a1_)(e:iL!):∃mA,Um h a dx C mA/\qn_/\PySem.Within mA li!/\bj_<=1000/\H dx=some fH_:=by obtain⟨d,z,ne,ob,mA,n,r,q⟩:=(show Eo P w H h a ew_ from hok a _ e);exact⟨mA,⟨ob,n,ne⟩,r,q,z,d⟩
end
structure Ua(K:zY!)(C:xz!):Prop where
 pg:W.plainGet K C Str.empty=true
 hd:W.hasDictIn K C=true
 po:W.plainOver K C=true
 sa:W.findIn K W! "__setattr__"=some sx!
def Ua.get{K:zY!}{C:xz!}(c:Ua K C)(f:Str):W.plainGet K C f=true:=c.pg
def Dx(K:zY!)(C:xz!)(f:Str):Prop:=W.findIn K W! f=some none
def Dx.taker{K:zY!}{C:xz!}{f:Str}(n:Dx K C f):W.takerIn K C f=some none:=by unfold W.takerIn;rw[show W.findIn K W! f=some none from n];rfl
structure Xd(K:zY!)(C:xz!)(m:Str)(f:xz!):Prop where
 at_:W.findIn K W! m=some eu_
 fn:W.isFn K af_=true
 kp:W.keepIn K af_=true
section
variable{X:Cx}{Y:List (Addr×Obj)}{Z:St}{H:Hp}{s:z6!}{a C dx:xz!}{fs:List (Str×V)}{f:Str}{v:V}{A:x8!}{E:Value->Shared->Prop}
def a8e{b:Bool}{Q:l_}(I:d!)(e:iL!)(c:ex!)(n:Dx X.K C f)(l:fs.lookup f=some v)
  (h:∀u s',Inv X Y Z H s'->Bl v u->Q u s'):wpAny e! A (getAttr F! f b) Q E s:=by
 obtain⟨mA,O,r,_,_,_⟩:=a1f I.hok e;obtain⟨u,hu,ru⟩:=Nt.some_of (v:=v) (o:=mA f) (by rw[<-l];exact r f);exact c3o I.kIn O (c.get f) c.hd n hu (b3r ru) (h u _ ey! ru)
def vH{m:Str}{pl:eu!}{Q:sw!}(I:d!)(e:iL!)(c:ex!)(k:Xd X.K C m g)(l:fs.lookup m=none)
  (h:Q (.ref g,bU_) s):wpAny e! A (getMethod F! m pl) Q E s:=by
 obtain⟨mA,O,r,_,_,_⟩:=a1f I.hok e;have hn:mA m=none:=Nt.none_of (by rw[<-l];exact r m);exact b9b I.kIn O (c.get m) k.at_ k.fn hn h
def a6e{y:V}{u:xT!}{Q:cM!}(I:d!)(e:iL!)(c:ex!)(n:Dx X.K C f)(hl:bj_<1000)(ry:Bl y u)
  (h:∀s',Inv X Y Z (upd H a sL_) s'->Q () s'):wpAny e! A (setAttr F! f u) Q E s:=by
 obtain⟨mA,O,r,wi,_,ho⟩:=a1f I.hok e;have hz:(li!).length<=sizeLine:=by rw[IP,KH];omega
 refine c1g I.kIn O c.sa c.po n.taker c.hd wi hz λh' O' sb=>h _ ?_;have hd:∃o,h'.get? dx=some o:=let⟨o,_,_,e',_⟩:=O'.ns;⟨o,e'⟩;refine I.write (x:=a) (e:=dx) sM! (.inr ho) (λb q hb z=>(sb.2 b hb).trans z) hd ?_;refine⟨by rw[aY O.ne];exact ho,?_,O.ne,O'.obj,_,O'.ns,λg=>?_,λg hg=>?_⟩
 .have:=rN f y fs;omega
 .show Nt ((Ko f y fs).lookup g) sM_;rw[rK];by_cases q:g=f
  .rw[IB q,IB q];exact ry
  .rw[IF q,IF q];exact r g
 .by_cases q:g=f
  .rw[q];exact(qQ f y fs).1
  .refine(qQ f y fs).2 g (wi g λz=>hg ?_);show sM_=none;rw[IF q];exact z
def Inv.made(I:d!):Inv X Y Z (upd (upd H s.heap.objs.size (.own ac!)) ac! (.ins C s.heap.objs.size []))
  {s with heap:=(ev!).push iI_}:=by
 have e1:(ev!).get? g!=some iI!:=IK s.heap rfl;have e2:((ev!).push iI_).get? ac!=some iI_:=by
  have:=IK ev! (o:=W.instObj C g!) rfl;rwa[NM]at this
 have e3:(ev!).Ns s.heap.objs.size mD!:=⟨iI!,#[],_,e1,rfl,(λe he=>absurd he b_),cj_⟩;have I1:=I.laid (a:=g!) (o:=.own ac!) (h':=s.heap.push iI!) (t':=s.toks) sO_ v_ ⟨_,e1⟩;refine I1.laid (a:=g!+1) (o:=.ins C s.heap.objs.size []) (t':=s.toks) sO_ (OP (NM _ _)) ?_;have ne:g!≠g!+1:=JF (OL _);refine⟨by rw[aY ne,bQ],JK _,ne,e2,λ_=>none,(Heap.Ns1.of_empty e3).at λo q=>HU _ q,λ_=>iM!,λy hy=>absurd rfl hy⟩
def c4s{prog:z7!}{w:yO!}{e:Expr}{f:Str}{pos:Pos}{s:z6!}{Q:l_}(hb:attributeBase e f env (eval e env)=eval e env)
  (h:wpAny o_ A (eval e env) (λo al=>wpAny o_ A (getAttr o f true) Q E al) E s):wpAny o_ A (eval sR! env) Q E s:=
 Attribute_any_ h (by rw[arm_eval_Attribute,hb])
end
def EI(K:zY!)(ta:TE)(f:Str):TE:=λZ H Q=>ta Z H λx H1=>∃a C dx fs v,x=.ref a/\H1 a=some ew_/\Ua K C/\Dx K C f/\fs.lookup f=some v/\Q v H1
def EO(K:zY!)(ta tv:TE)(f:Str):TS:=λD Z H=>tv Z H λy H1=>ta Z H1 λx H2=>∃a C dx fs,x=.ref a/\H2 a=some ew_/\Ua K C/\Dx K C f/\bj_<1000/\
 D.nx Z (upd H2 a sL_)
section
variable{X:Cx}{o e value:Expr}{f:Str}{pos pos' tpos:Pos}{ta tv:TE}
def c6y(he:PE X e ta)(hb:attributeBase e f X.env el!=eval e X.env):PE X sR! (EI X.K ta f):=by intro Y s Z H Q I h;refine c4s hb (cX ch_ λu s1 ⟨x,H1,I1,rx,a,C,dx,fs,v,ex,ea,c,n,l,q⟩=>?_);subst ex;obtain rfl:u=Value.ref a:=rx;exact a8e I1 ea c n l λu' s2 I2 ru=>⟨v,H1,I2,ru,q⟩
def c6s(ha:PE X o ta)(hv:PE X value tv)(hs:swapsWith value (some (.Attribute o f pos')) pos.line X.env=pure false):PS X (.Assign [.Attribute o f pos'] value pos) (EO X.K ta tv f):=by intro Y s Z H D I h;refine plainObj_wpAny_Assign_Attribute (cX (hv Y s Z H _ I h) λu s1 ⟨y,H1,I1,ry,q⟩=>cX (ha Y s1 Z H1 _ I1 q) λov s2 ⟨x,H2,I2,rx,a,C,dx,fs,ex,ea,c,n,l,q2⟩=>?_) hs;subst ex;obtain rfl:ov=Value.ref a:=rx;exact a6e I2 ea c n l ry λs3 I3=>⟨Z,_,I3,q2⟩
def c5l{pl:eu!}{m:Str}{ay:Pos}{Y:k_}{s:z6!}{Z:St}{H:Hp}{Q:l_}{te:TE}(he:ch!)(I:d!)
  (h:te Z H λx H1=>∃a C dx fs g,x=.ref a/\H1 a=some ew_/\Ua X.K C/\Xd X.K C m g/\fs.lookup m=none/\
   ∀s1,Inv X Y Z H1 s1->wpAny e! X.A (callWith pos (.ref g) bU_ sT_ ge!) Q X.xe s1)
  (ht:eval sU! X.env=(do
   let ov <-eval e X.env
   standAt iO!
   let(f,first) <-holding [ov] iO_
   callWith pos f first sT_ ge!)):
  wpAny e! X.A (eval sU! X.env) Q X.xe s:=by
 refine W.methodCall_KW (pl:=pl) (cX ch_ λu s1 ⟨x,H1,I1,rx,a,C,dx,fs,g,ex,ea,c,k,l,q⟩=>?_) ht;subst ex;obtain rfl:u=Value.ref a:=rx;exact vH I1 ea c k l (q s1 I1)
end
end L2
namespace L2
open PySem PySem.Spec PyProof.Rows
structure Ak(k:Nat)(A:x8!):Prop where
 hd:A.handled=none
 dp:A.depth+3*k+5<recursionLimit
 un:A.units+16*k+200<cLine
 gd:A.guards=some []
def Ak.mono{j k:Nat}{A:x8!}(r:ge_)(h:j<=k):Ak j A:=⟨r.hd,by have:=r.dp;omega,by have:=r.un;omega,r.gd⟩
def Ak.deeper{k:Nat}{A:x8!}(r:Ak M_ A)(env:Env):Ak k (A.deeper env):=
 ⟨r.hd,by have:=r.dp;show A.depth+1+3*k+5<_;omega,by have:=r.un;show A.units+3+16*k+200<_;omega,r.gd⟩
def Ak.in1{k:Nat}{A:x8!}(r:Ak M_ A):Ak k A.in1:=
 ⟨r.hd,by have:=r.dp;show A.depth+3*k+5<_;omega,by have:=r.un;show A.units+1+16*k+200<_;omega,r.gd⟩
def a7u{A:x8!}{C:xz!}{kw:dD!}:(iP_).depth=A.depth+1:=by first|rfl|simp[Around.under,Code.weight,Code.isCreation,Code.isGuard,Code.isCaller,Code.frames,Code.isFrame,guardIds]
def a7t{A:x8!}{C:xz!}{kw:dD!}:(iP_).units=A.units+1:=by first|rfl|simp[Around.under,Code.cUnits,Code.frames,Code.isFrame]
def Ak.make{k:Nat}{A:x8!}(r:Ak M_ A)(C:xz!)(us:g_)(kw:dD!):Ak k iP_:=
 ⟨r.hd,by have:=r.dp;rw[a7u];omega,by have:=r.un;rw[a7t];omega,by first|exact r.gd|(simpa[Around.under,Code.guards,Code.isGuard,guardIds,pushGuards]using r.gd)⟩
def Ak.depth{k:Nat}{A:x8!}(r:ge_):A.depth<recursionLimit:=by have:=r.dp;omega
def Ak.units{k:Nat}{A:x8!}(r:ge_):A.units+64<cLine:=by have:=r.un;omega
def Ak.units0{k:Nat}{A:x8!}(r:ge_):A.units<cLine:=by have:=r.un;omega
def BC:TA:=λ_ H Q=>Q [] H
def BG(ta:TE)(tr:TA):TA:=λZ H Q=>ta Z H λx H1=>tr Z H1 λxs H2=>Q dE! H2
section
variable{X:Cx}{e:Expr}{es:List Expr}{te:TE}{t:TA}{pos:Pos}
def fP:PA X [] BC:=λ_ _ _ _ H Q I h=>NR ⟨[],H,I,.nil,h⟩
def dA(ha:ch!)(hr:gf!)(hs:ag!:=by rfl):PA X aD_ (BG te t):=by intro pos Y s Z H Q I h;rw[hs];show wpAny _ _ (spliced (dE_::backTo pos lI_)) _ _ s;refine LL (cX bR_ λu s1 ⟨x,H1,I1,r1,q1⟩=>?_);exact cX (hr pos Y s1 Z H1 _ I1 q1) λus s2 ⟨xs,H2,I2,r2,q2⟩=>⟨x::xs,H2,I2,.cons r1 r2,q2⟩
def EA(t:TA):TE:=λZ H Q=>t Z H λxs H1=>i_<=sizeLine/\∀p,H1 p=none->Q cl! (upd H1 p bw_)
def EF(t:TA):TE:=λZ H Q=>t Z H λxs H1=>i_<=sizeLine/\∀p,H1 p=none->Q cl! (upd H1 p Q_)
def b6g {x1}(h:gf!):PE X qE! (EA t):=by intro Y s Z H Q I hq;refine wpAny_Tuple_spliced s2_;have hf:H1 y!=none:=I1.hok.fresh v_;refine⟨.ref y!,upd H1 s1.heap.objs.size bw_,s3!,rfl,q _ hf⟩;exact⟨z,us,r,⟨_,dy!,rfl,_,rfl⟩⟩
def tZ(h:gf!):PE X mO_ (EF t):=by intro Y s Z H Q I hq;refine wpAny_List_spliced s2_;have hf:H1 y!=none:=I1.hok.fresh v_;refine⟨.ref y!,upd H1 s1.heap.objs.size Q_,s3!,rfl,q _ hf⟩;exact⟨z,us,0,r,dy!⟩
end
abbrev Sp:=List V->Hp->VK->XK->Prop
abbrev Vk:=List Env->Hp->Shared->XK->Value->Shared->Prop
structure Qs(P:z7!)(w:yO!)(K:zY!)(mg:x!)(base:Heap)(A:x8!)(outer:P_)(s:z6!)(H:Hp):Prop where
 frames:A.frames=some outer
 mod:Mod K mg base
 bs:∀b o,base.get? b=some o->s.heap.get? b=some o/\H b=none
 bsz:base.objs.size<=g!
 funs:s.heap.FunFrames base outer
 frf:∀b∈frs outer,H b=none
 hok:Lr P w H s.heap
 bare:AllBare s.gens
def CE(outer:P_)(P:z7!)(w:yO!)(H:Hp)(s:z6!)(Q:VK)(u:xT!)(s':z6!):Prop:=
 ∃v H',s'.os=s.os/\AllBare s'.gens/\Un (frs outer) [] H H' s.heap s'.heap/\Lr P w H' s'.heap/\Bl v u/\Q v H'
def CR(CX:Vk)(outer:P_)(P:z7!)(w:yO!)(H:Hp)(s:z6!)(Q:VK)(E:XK)(r:Result)(s':z6!):Prop:=
 match r with
 |.ok (.ret u)=>CE outer P w H s Q u s'
 |.ok _=>False
 |.error e=>CX outer H s E e s'
structure Fk(P:z7!)(w:yO!)(K:zY!)(mg:x!)(base:Heap)(CX:Vk)(k:Nat)(f:xz!)(fd:FuncData)(ps:o!)(sp:Sp):Prop where
 len:∀vs H Q E,sp vs H Q E->a4_=R_
 run:∀(A:x8!) (outer:P_) (s:z6!) (H:Hp) (args:Args) (us:g_) (vs:m_) (Q:VK) (E:XK),Ak k A->Qs P w K mg base A outer s H->BindsTo s fd args cW_->Ax vs us->sp vs H Q E->
  codeAny C! A (.call af_ args) (CR CX outer P w H s Q E) s
def Fk.mono{P:z7!}{w:yO!}{K:zY!}{mg:x!}{base:Heap}{CX:Vk}{j k:Nat}{f:xz!}{fd:FuncData}{ps:o!}{sp:Sp}(F:Fk P w K mg base CX j f fd ps sp)(h:j<=k):
  Fk P w K mg base CX k f fd ps sp:=⟨F.len,λA outer s H args us vs Q E hr=>F.run A outer s H args us vs Q E (hr.mono h)⟩
def Fk.imp{P:z7!}{w:yO!}{K:zY!}{mg:x!}{base:Heap}{CX:Vk}{k:Nat}{f:xz!}{fd:FuncData}{ps:o!}{sp zp:Sp}(F:Fk P w K mg base CX k f fd ps sp)
  (h:∀vs H Q E,zp vs H Q E->sp vs H Q E):Fk P w K mg base CX k f fd ps zp:=
 ⟨λvs H Q E q=>F.len vs H Q E (h _ _ _ _ q),λA outer s H args us vs Q E hr he hb hv hs=>F.run A outer s H args us vs Q E hr he hb hv (h _ _ _ _ hs)⟩
def Qs.make{P:z7!}{w:yO!}{K:zY!}{mg:x!}{base:Heap}{A:x8!}{outer:P_}{s:z6!}{H:Hp}(e:mP_)(C:xz!)(us:g_)(kw:dD!):
  Qs P w K mg base iP_ outer s H:=⟨by first|exact e.frames|(simpa[Around.under,Code.envs,Code.isFrame,pushEnvs]using e.frames),e.mod,e.bs,e.bsz,e.funs,e.frf,e.hok,e.bare⟩
def Qs.in1{P:z7!}{w:yO!}{K:zY!}{mg:x!}{base:Heap}{A:x8!}{outer:P_}{s:z6!}{H:Hp}(e:mP_):
  Qs P w K mg base A.in1 outer s H:=⟨e.frames,e.mod,e.bs,e.bsz,e.funs,e.frf,e.hok,e.bare⟩
section
variable{X:Cx}{Y:List (Addr×Obj)}{Z:St}{H:Hp}{s s':z6!}
def Inv.env0(I:d!):Qs X.prog X.w X.K X.mg X.base X.A X.stack s H:=
 ⟨I.ok.frames,I.ok.mod,I.bs,JM I.ok.bsz I.sz,I.stack,I.stkFree,I.hok,I.bare⟩
def Inv.after{Q:VK}{u:xT!}(I:d!)(h:CE X.stack X.prog X.w H s Q u s'):EP X Y Z Q u s':=by obtain⟨v,H',os,bare,un,hok,r,q⟩:=h;obtain⟨hh,g,d,t,wb⟩:=s';obtain rfl:wb=s.os:=os;exact⟨v,H',I.call (h':=hh) (g':=g) (d':=d) (t':=t) (ch:=[]) un hok bare s5_,r,q⟩
end
def BH(sp:Sp)(dvs:m_)(E:XK)(t:TA):TE:=λZ H Q=>t Z H λvs H1=>sp cX! H1 Q E
def BE(C:xz!)(m:Str)(sp:Sp)(dvs:m_)(E:XK)(ta:TE)(t:TA):TE:=λZ H Q=>ta Z H λx H1=>∃a dx fs,x=.ref a/\H1 a=some ew_/\fs.lookup m=none/\
 t Z H1 λvs H2=>sp (x::cX!) H2 Q E
def Yq(C:xz!)(sp:Sp)(dvs:m_)(E:XK)(t:TA):TE:=λZ H Q=>t Z H λvs H1=>∀x dx,H1 x=none->H1 dx=none->dx≠x->
 sp (.ref x::cX!) mQ! s6! E
def Ex(K:zY!)(fd:FuncData)(ps:o!)(ds:g_):Prop:=
 ∀(s:z6!) (us:g_),K.In s.heap->(eU!).length=R_->BindsTo s fd cX_ (ps.zip eU!)
def Ex.all{K:zY!}{fd:FuncData}{ps:o!}(h:∀us:List Value,aq_=R_->bindArgs fd cX_=pure cW_):Ex K fd ps []:=λs us _ hl=>by
 rw[JH]at hl ⊢;exact .of_eq (h us hl)
def Lq(CX:Vk)(X:Cx)(E:XK):Prop:=∀(Y:k_) (Z:St) (H:Hp) (s:z6!) (e:xT!) (s':z6!),Inv X Y Z H s->CX X.stack H s E e s'->X.xe e s'
section
variable{X:Cx}{CX:Vk}{k:Nat}{f C:xz!}{fd:FuncData}{ps:List Str}{sp:Sp}{dvs:List V}{ds:List Value}{E:XK}{x m:Str}{p pos ay:Pos}{e o:Expr}{es:List Expr}{ta:TE}{t:TA}
def a6n{Y:k_}{Z:St}{H:Hp}{s:z6!}{Q:VK}(F:ez_)(hr:bn_)(hb:eB!)(hd:eA!)(hx:eA_)
  (I:d!)(r:ek_)(h:sp cX! H Q E):wpAny e! X.A (call af_ us) aD! X.xe s:=by
 have r2:Ax cX! eU!:=r.append hd;have hl:(eU!).length=R_:=by rw[<-r2.length];exact F.len _ _ _ _ h
 refine wpAny_call (RN (F.run X.A X.stack s H cX_ eU! cX! Q E hr I.env0 (hb s us I.kIn hl) r2 h) λr s' hq=>?_);cases r with
 |error e=>exact hx Y Z H s e s' I hq
 |ok fl=>
  cases fl with
  |ret u=>exact I.after hq
  |next=>exact False.elim hq
  |brk=>exact False.elim hq
  |cont=>exact False.elim hq
def zQ(F:ez_)(hr:bn_)(hg:J!)(hm:X.mg x=some af_)(hk:W.keepIn X.K af_=true)(hb:eB!)(hd:eA!)(hx:eA_)
  (ha:eC!)(a8:y_:=by decide)(he:ag!:=by rfl)(ax:aF!:=by rfl):
  PE X a9_ (BH sp dvs E t):=by
 show"!F";refine MD mQ_;refine W.callWith_K (h₀:=X.base) I.ok.mod.kin hk s7! he ax;exact a6n F hr hb hd hx I1 r q
def a9z{pl:eu!}(he:PE X o ta)(c:ex!)(hm:Xd X.K C m f)(F:ez_)(hr:bn_)(hb:eB!)(hd:eA!)(hx:eA_)(ha:eC!)
  (hst:ag!:=by rfl)(ax:aF!:=by rfl)
  (ht:eval eD! X.env=(do
   let ov <-eval o X.env
   standAt iO!
   let(f,first) <-holding [ov] iO_
   callWith pos f first mR! ge!):=by rfl):
  PE X eD! (BE C m sp dvs E ta t):=by
 show"!F";refine W.methodCall_KW (pl:=pl) (cX ch_ λu s1 ⟨x,H1,I1,rx,a,dx,fs,ex,ea,l,q⟩=>?_) ht;subst ex;obtain rfl:u=Value.ref a:=rx;refine vH I1 ea c hm l ?_;refine W.callWith_K (first:=bU_) (h₀:=X.base) I.ok.mod.kin hm.kp (cX (ha pos Y s1 Z H1 _ I1 q) λus s2 ⟨vs,H2,I2,r,q2⟩=>s9!) hst ax;exact a6n (us:=.ref a::us) (vs:=.ref a::vs) F hr hb hd hx I2 (.cons rfl r) q2
structure Mk(K:zY!)(C f:xz!):Prop where
 makes:W.makesIn K C=true
 init:W.findIn K W! "__init__"=some eu_
 fn:W.isFn K af_=true
 kp:W.keepIn K W!=true
def a2p{Y:k_}{Z:St}{H:Hp}{s:z6!}{Q:VK}(M:mS!)(F:ez_)(hr:gh!)(hb:eB!)(hd:eA!)
  (hx:eA_)(I:d!)(r:ek_)
  (h:∀x dx,H x=none->H dx=none->dx≠x->sp (.ref x::cX!) (upd (upd H dx hS_) x lJ_) s6! E):
  wpAny e! X.A (call W! us) aD! X.xe s:=by
 have hq:=h ac! s.heap.objs.size ta! eE! (JF (OL _));have I2:=Inv.made (C:=C) I;have r2:Ax (V.ref ac!::cX!) ta_:=.cons rfl (r.append hd);have hl:(Value.ref ac!::us++ds).length=R_:=by
  have e:=r2.length;rw[F.len _ _ _ _ hq]at e;exact e.symm
 refine wpAny_call (b7w (f:=f) I.kIn M.makes M.init (NZ.mp M.fn) (RN (F.run _ X.stack _ _ ⟨Value.ref ac!::us,[]⟩ ta_ _ _ E (hr.make C us [])
  (I2.env0.make C us []) (hb _ (Value.ref ac!::us) I2.kIn hl) r2 hq) λr s' be=>?_))
 cases r with
 |error e=>exact hx Y Z _ _ e s' I2 be
 |ok fl=>
  cases fl with
  |ret u=>
   obtain⟨v,H',I3,rv,ev,q3⟩:=I2.after be;subst ev;exact⟨rv,⟨V.ref ac!,H',I3,rfl,q3⟩⟩
  |next=>exact False.elim be
  |brk=>exact False.elim be
  |cont=>exact False.elim be
def c2a(M:mS!)(F:ez_)(hr:gh!)(hg:J!)(hm:gh_)(hb:eB!)(hd:eA!)(hx:eA_)
  (ha:eC!)(a8:y_:=by decide)(he:ag!:=by rfl)(ax:aF!:=by rfl):
  PE X a9_ (Yq C sp dvs E t):=by
 show"!F";refine MD mQ_;refine W.callWith_K (h₀:=X.base) I.ok.mod.kin M.kp s7! he ax;exact a2p M F hr hb hd hx I1 r q
def b6k(M:mS!)(F:ez_)(hr:gh!)(hg:J!)(hm:gh_)(hb:eB!)(hd:eA!)(hx:eA_)
  (a8:y_:=by decide):PE X tc! (Yq C sp dvs E BC):=by
 show"!F";refine MD mQ_;exact W.callWith_K0 I.kIn M.kp (a2p (us:=[]) M F hr hb hd hx I .nil h)
end
structure Ai(N P:o!)(sc:Scope):Prop where
 kind:sc.kind=.function
 co:sc.isCoroutine=false
 gen:sc.isGenerator=false
 nd:N.Nodup
 pre:N.take P.length=P
 par:∀x∈P,sc.names.lookup x=some .local\/sc.names.lookup x=some .cell
 nofree:∀y∈sc.names,y.2≠.free
def yR{kindOf:iS!}{x:Str}:∀{binds:dD!} {m:x!},td_->bindL kindOf binds m x=m x
 |[],_,_=>rfl
 |(n,v)::r,m,h=>by
  unfold bindL;rw[yR λw hw=>h w (HS _ hw)];split
  .have:x≠n:=by rintro rfl;exact h v HX
   simp[this]
  .rfl
def yT{kindOf:iS!}{x:Str}:∀{binds:dD!} {m:x!},td_->bindC kindOf binds m x=m x
 |[],_,_=>rfl
 |(n,v)::r,m,h=>by
  unfold bindC;rw[yT λw hw=>h w (HS _ hw)];split
  .rfl
  .have:x≠n:=by rintro rfl;exact h v HX
   simp[this]
def yS{kindOf:iS!}{x:Str}{v:xT!}:∀{P:o!} {vs:g_} {i:Nat} {m:x!},P.Nodup->P[i]?=some x->vs[i]?=some v->kindOf x=some .local->
  bindL kindOf (P.zip vs) m x=some v
 |[],_,_,_,_,h,_,_=>by simp at h
 |_::_,[],_,_,_,_,h,_=>by simp at h
 |p::P,w::vs,0,m,nd,J,h2,hk=>by
  simp at J h2;subst J;subst h2;show bindL kindOf iS_ m p=_;unfold bindL;rw[yR λv hv=>(iT!).1 (SM hv).1,a5!];simp
 |p::P,w::vs,i+1,m,nd,J,h2,hk=>by
  show bindL kindOf iS_ m x=_;unfold bindL;exact yS (i:=i) (iT!).2 te_ tf! hk
def yU{kindOf:iS!}{x:Str}{v:xT!}:∀{P:o!} {vs:g_} {i:Nat} {m:x!},P.Nodup->P[i]?=some x->vs[i]?=some v->kindOf x≠some .local->
  bindC kindOf (P.zip vs) m x=some v
 |[],_,_,_,_,h,_,_=>by simp at h
 |_::_,[],_,_,_,_,h,_=>by simp at h
 |p::P,w::vs,0,m,nd,J,h2,hk=>by
  simp at J h2;subst J;subst h2;show bindC kindOf iS_ m p=_;unfold bindC;rw[yT λv hv=>(iT!).1 (SM hv).1,a6!];simp
 |p::P,w::vs,i+1,m,nd,J,h2,hk=>by
  show bindC kindOf iS_ m x=_;unfold bindC;exact yU (i:=i) (iT!).2 te_ tf! hk
def Mf(N:o!)(vs:m_):St:=vs.map some++List.replicate (iT_ - a4_) none
def Jz(CX:Vk)(P:z7!)(w:yO!)(K:zY!)(mg:x!)(base:Heap)(N:o!)(qual:Str)(scope:Scope)(f:xz!)(cd:xT!)(A:x8!)(outer:P_)(s:z6!)(H:Hp)(E:XK):Cx where
 prog:=P
 w:=w
 K:=K
 mg:=mg
 base:=base
 A:=A.deeper gi!
 N:=N
 s₀:=s
 H₀:=H
 env:=envOfC qual scope s.heap.objs.size f cd
 outer:=outer
 stack:=envOfC qual scope s.heap.objs.size f cd::outer
 ex:=[]
 calm:=true
 fn:=λ_=>true
 pn:=[]
 xe:=λe s'=>wpAny C! (A.deeper gi!) (leaving gi! e) (λ_ wc=>CX outer H s E e wc) (λe' wc=>CX outer H s E e' wc) s'
def a5j{sc:Scope}{n:Nat}{x:Str}(h:sc.names.lookup x=some .cell):∃c,(cellsFrom n sc.names []).lookup x=some c:=by have q:=W.cellsFrom_some sc.names n [] if_;exact QL.mp q
def b3n{CX:Vk}{P:z7!}{w:yO!}{K:zY!}{mg:x!}{base:Heap}{ps:o!}{scope:Scope}{f:xz!}{A:x8!}{outer:P_}{s:z6!}{H:Hp}{E:XK}{vs:m_}
  (S:Ai N ps scope)(hd:bo_)(e0:mP_)(hl:a4_=R_)(r:ek_)
  (x:InCallC s s.heap.objs.size (bindL (gi!).kindOf cW_ λ_=>none) tf_ (bindC (gi!).kindOf cW_ λ_=>none) s1):
  Inv tg_ [] gi_ H s1:=by
 have ax:R_<=iT_:=by have:=congrArg List.length S.pre;rw[NQ]at this;omega
 obtain⟨J,tk,rfl,hk⟩:=x.done;have rm:∀b:Addr,b∉(tg_).ex:=λb z=>absurd th_ b_;refine⟨⟨e0.mod,S.kind,rfl,rfl,IN _,λy z c J h2=>?_,λy hy=>?_,λy c _ h=>?_,λ_=>hd,Around.frames_deeper e0.frames,.inr aE!,ti!,e0.bs,e0.bsz,λb _ _=>rm b,ti!,e0.funs,e0.frf⟩,
  rfl,e0.bare,Un.kept hk,⟨_,x.toInCall.ns,λi y v J h2 h3=>?_⟩,λy c h=>⟨_,x.cell y c h⟩,e0.hok.fresh v_,λy c h=>?_,λp hp=>absurd (show p∈([]:List ei!)from hp) b_,e0.hok.kept hk,?_⟩
 .exact name_of_addr x.apart (MJ J) (MJ h2)
 .have hy:scope.names.lookup y=some .cell\/scope.names.lookup y=some .free:=hy;obtain hy|hy:=hy
  .exact a5j hy
  .exact absurd rfl (S.nofree _ (MJ hy))
 .exact NV ti_
 .have hi:i<a4_:=by
   unfold Mf at h2;by_cases hi:i<a4_
   .exact hi
   .rw[eF!]at h2;rw[MB]at h2;split at h2<;>cases h2
  have ha:vs[i]?=some v:=by
   unfold Mf at h2;rw[LA gk!,JN]at h2;cases e:vs[i]? with
   |none=>rw[e]at h2;cases h2
   |some a=>rw[e]at h2;cases h2;rfl
  obtain⟨u,hu,rv⟩:=r.get ha;have hp:ps[i]?=some y:=by
   rw[<-S.pre,List.getElem?_take_of_lt a!];exact J
  have zq:ps.Nodup:=by rw[<-S.pre];exact S.nd.sublist (List.take_sublist _ _)
  refine⟨u,rv,?_⟩;obtain k|k:=S.par y (NH hp)
  .exact .inl ⟨k,yS zq hp hu k⟩
  .obtain⟨c,e⟩:=a5j (n:=g!+1) k;refine .inr ⟨.inl k,c,e,?_⟩;have q:=x.cell y c e;rw[yU zq hp hu (by show scope.names.lookup y≠_;rw[k];decide)]at q;exact q
 .exact e0.hok.fresh (NV ti_)
 .unfold Mf;show _=iT_;rw[JA,IP,NA];omega
def c5q{CX:Vk}{P:z7!}{w:yO!}{K:zY!}{mg:x!}{base:Heap}{k:Nat}{f:xz!}{name:Str}{params:Arguments}{body:by!}{kV:xT!}{an od:aG_}
  {dt:bB_}{ps:o!}{sp:Sp}(lk:K.lookup f=some ⟨oc,od,.func tj!,dt⟩)(bv:iV!)(S:Ai N ps scope)
  (len:tj_)
  (pj:∀(A:x8!) (outer:P_) (s:z6!) (H:Hp) (vs:m_) (Q:VK) (E:XK),Ak k (A.deeper (envOfC qual scope s.heap.objs.size f ah))->sp vs H Q E->
   ∃t,Ox mV_ body t/\t {nx:=λ_ H'=>Q .non H',rt:=Q} gi_ H):
  Fk P w K mg base CX M_ f tj! ps sp:=by
 refine⟨len,λA outer s H args us vs Q E hr e0 hb r jg=>?_⟩;have hl:=len _ _ _ _ jg;have KX:K.In s.heap:=e0.mod.kin.keeps λb o e=>(e0.bs b o e).1;have bo:s.heap.NoLimit:=e0.mod.nolimit.keeps λb o e=>(e0.bs b o e).1;have cj:∀y∈ps.zip us,scope.names.lookup y.1=some .local\/(scope.names.lookup y.1=some .cell/\((tf_).lookup y.1).isSome=true):=λ⟨n,v⟩ hy=>by
  obtain q|q:=S.par n (SM hy).1
  .exact .inl q
  .exact .inr ⟨q,W.cellsFrom_some _ _ _ (.inl q)⟩
 refine codeAny_call_function hr.depth (KX _ _ lk) rfl S.co S.gen rfl (W.codeRec_of KX bv) (hb _ _ _ _ ?_);refine wpAny_newFunctionEnv_cells S.kind cj λenv he s1 x=>?_;subst he;refine⟨bo.keeps x.toInCall.keep,codeAny_func ?_⟩;obtain⟨t,ht,hq⟩:=pj A outer s H vs Q E (hr.deeper _) jg;have I:Inv mV_ [] gi_ H s1:=b3n S hr.hd e0 hl r x;refine KS (ht [] s1 gi_ H _ I hq) (λfl s' hs=>?_) λe s' hs=>hs;have fin:∀{ac:St} {H':Hp} {v:V} {u:xT!},Inv mV_ [] ac H' s'->Bl v u->Q v H'->CE outer P w H s Q u s':=
  λ{ac H' v u} af rv q=>⟨v,H',af.os,af.bare,af.base,af.hok,rv,q⟩
 cases fl with
 |ret u=>
  obtain⟨v,ac,H',af,rv,q⟩:=hs;exact fin af rv q
 |next=>
  obtain⟨ac,H',af,q⟩:=hs;exact fin (v:=V.non) (u:=ce_) af rfl q
 |brk=>
  obtain⟨_,_,_,q⟩:=hs;exact False.elim q
 |cont=>
  obtain⟨_,_,_,q⟩:=hs;exact False.elim q
end L2
namespace L2
open PySem PySem.Spec PyProof.Rows
section
variable{X:Cx}{x:Str}{p pos:Pos}{e:Expr}{es:List Expr}{t:TA}{id T:String}{r:List V->Hp->VK->Prop}
def FT(r:dA!)(t:TA):TE:=λZ H Q=>t Z H λvs H1=>r vs H1 Q
def oH(hc:mB_)(hg:J!)(hm:cO!)(hv:mW!)(ha:eC!)(hn:cO_:=by decide)(a8:y_:=by decide)
  (he:ag!:=by rfl)(ax:aF!:=by rfl):PE X a9_ (FT r t):=by
 show"!F";refine MD tl_;exact PyProof.Rows.callWith_builtin1 tm! he ax
def b2n(hc:Ir X dI! r)(hg:J!)(hm:cO!)(hv:mW_)(ha:eC!)(hn:cO_:=by decide)(a8:y_:=by decide)
  (he:ag!:=by rfl)(ax:aF!:=by rfl):PE X a9_ (FT r t):=by
 show"!F";refine MD tl_;exact KO tm! he ax
end
end L2
namespace HT
open PySem PyProof.Rows
nonrec def lexLt:List Int->List Int->Bool
 |[],[]=>false
 |[],_::_=>true
 |_::_,[]=>false
 |x::xs,y::ys=>if x=y then lexLt xs ys else decide (x<y)
def lexLt_cons(x y:Int)(xs ys:r!):lexLt dE! (y::ys)=if x=y then lexLt xs ys else decide (x<y):=rfl
def lexLt_nil_nil:lexLt [] []=false:=rfl
def uR(y:Int)(ys:r!):lexLt [] (y::ys)=true:=rfl
def uS(x:Int)(xs:r!):lexLt dE! []=false:=rfl
def b9j(A:x8!)(s:z6!)(a:Int)(t:Tok)(c:Int)(u:Tok):∃e,SeqAt.EqAt A s gl! mX! e/\(e=true↔a=c):=
 ⟨(a==c),QR a t c u,Q!⟩
section
open PySem.SeqAt
open PySem.AutoSeq1 (wpAny_loadPart')
open PySem.MeetsSeq PySem.MeetsSeq2 PySem.MeetsSeq3
end
section
variable{prog:z7!}{w:yO!}{A:x8!}{E:Value->Shared->Prop}{s:z6!}
def cat_tup{t b:xz!}{vs ws:g_}{Q:l_}(ht:IsTup s.heap t cm!)(hb:IsTup s.heap b ws.toArray)(hv:vs≠[])
  (J:ws=[]->Q iW! s)(h2:ws≠[]->Q bl_ {s with heap:=s.heap.push {cls:=.type "tuple",data:=.seq (vs++ws).toArray}})
  (hsz:a4_+mX_<=sizeLine):wpAny o_ A (binaryOp .Add iW! dJ!) Q E s:=by
 obtain⟨⟨cls,dd,data,sl⟩,ho,hc,n,hd⟩:=id ht;obtain⟨⟨zr,ky,data2,f7⟩,jh,ii,n2,ji⟩:=id hb;simp only at hc hd ii ji;subst hc hd ii ji;have e:cm!++ws.toArray=(vs++ws).toArray:=by simp
 by_cases hw:ws=[]
 .exact concat_meets iX! iY! noFill_tuple_add seq_tuple_add QU QO (QK _ _)
   (tuple_addW1 t b vs.toArray ws.toArray n n2 dd ky sl f7 iX_ (by simp[hw])) ⟨ho,jh,J hw⟩
 .refine concat_meets iX! iY! noFill_tuple_add seq_tuple_add QU QO (QK _ _)
   (tuple_addW2 t b vs.toArray ws.toArray n n2 dd ky sl f7 iX_ mZ! (by rw[HY,HY];exact hsz)) ⟨ho,jh,?_⟩
  rw[e];exact h2 hw
nonrec def sIx(n d:Nat):Option Int->Nat
 |none=>d
 |some v=>if v<0 then(mZ_).toNat else min v.toNat n
def sIx_none(n d:Nat):sIx n d none=d:=rfl
def sIx_nat(n d k:Nat):sIx n d (some (k:Int))=min k n:=by show(if(k:Int)<0 then((k:Int)+(n:Int)).toNat else min (k:Int).toNat n)=min k n;rw[IF a!,NK]
def c6j(n d:Nat)(hd:d<=n)(o:aW!):sIx n d o<=n:=by
 cases o with
 |none=>exact hd
 |some v=>
  show to_<=n;by_cases hv:v<0
  .rw[IB hv];omega
  .rw[IF hv];exact Nat.min_le_right _ _
def b1l(v:Int)(n d:Nat):tp!=((sIx n d a2!:Nat):Int):=by
 show tp!=((to_:Nat):Int);by_cases hv:v<0
 .simp only[IB hv];omega
 .simp only[IF hv];omega
def a8w(lo hi:aW!)(n:Nat):Builtin.Slice.sliceAdjust lo hi 1 (n:Int)=(iZ_,tp_):=by
 have J:¬((1:Int)<0):=by omega
 unfold Builtin.Slice.sliceAdjust;simp only[J,JT];refine Prod.ext ?_ ?_
 .cases lo with
  |none=>rfl
  |some v=>exact b1l v n 0
 .cases hi with
  |none=>rfl
  |some v=>exact b1l v n n
def a6w(i j:Nat):Builtin.Slice.slicePlaces (i:Int) (j:Int) 1=j - i:=by
 unfold Builtin.Slice.slicePlaces;have J:(1:Int)>0:=by omega
 simp only[J,KA,Int.ediv_one];split<;>omega
def tK{v:xT!}{o:aW!}{Q:Option Int->Shared->Prop}(p:IsPart v o)(h:Q o s):wpAny o_ A (Builtin.Slice.slicePartIndex v) Q E s:=by
 cases p with
 |none=>exact slicePart_none h
 |int i t=>exact slicePart_int h
def pU{lo hi:aW!}{n:Nat}{Q:Int×Int×Nat->Shared->Prop}(hs:tq!)(pl:IsPart vl lo)(pu:IsPart vu hi)
  (h:Q (iZ_,1,sIx n n hi - sIx n 0 lo) s):wpAny o_ A (Builtin.Slice.sliceApplied i0! (pure (n:Int))) Q E s:=by
 obtain⟨os,mv,pp,uw⟩:=id hs;unfold Builtin.Slice.sliceApplied Builtin.Slice.sliceFields;refine HM (HM (KB mv uw (x:=vl) rfl (HM (KB mv uw (x:=vu) rfl (HM (KB mv uw (x:=bX!) rfl O_))))));refine HM (slicePart_none ?_);show wpAny _ _ (if((1:Int)==0)=true then _ else _) _ _ s;rw[IF c!];refine HM (tK pl (HM (tK pu (HM O_))));show wpAny _ _ (match Builtin.Slice.sliceAdjust lo hi 1 (n:Int)with|(lo,hi)=>pure (lo,(1:Int),Builtin.Slice.slicePlaces lo hi 1)) _ _ s;rw[a8w lo hi n];show wpAny _ _ (pure (iZ_,(1:Int),Builtin.Slice.slicePlaces iZ_ tp_ 1)) _ _ s;rw[a6w];exact HP h
def b6c(xs:I!)(i k:Nat):((ts!).filterMap λ(m:Nat)=>xs[(m1!).toNat]?).toArray=((xs.toList.drop i).take k).toArray:=by
 have e:(λ(m:Nat)=>xs[(m1!).toNat]?)=λm=>xs[i+m]?:=by
  funext m;have:(m1!).toNat=i+m:=by omega
  rw[this]
 rw[e];have:=pick_run xs i k;rw[List.filterMap_map]at this;have e2:((λx=>xs[x]?)∘λx=>i+x)=λm=>xs[i+m]?:=rfl;rw[e2]at this;rw[this]
def getItem_tuple_cut{t:xz!}{items:I!}{lo hi:aW!}{Q:l_}(ht:IsTup s.heap t items)(hs:tq!)(pl:IsPart vl lo)(pu:IsPart vu hi)
  (hw:¬(sIx items.size 0 lo=0/\sIx items.size items.size hi=c0!))
  (h:Q bl_ {s with heap:=s.heap.push {cls:=.type "tuple",data:=.seq (m3!).toArray}})
  (hsz:c0!<=sizeLine):wpAny o_ A (getItem iW! i0!) Q E s:=by
 have ux:sizeOk (.seq (m3!).toArray):=by
  show(m3!).toArray.size<=sizeLine;rw[HY,NQ,SG,KG];omega
 have hj:sIx items.size items.size hi<=c0!:=c6j _ _ v_ hi;obtain⟨os,mv,pp,uw⟩:=id hs;have VN:s.TypeIs i0! "slice":=⟨os,mv,pp⟩;unfold getItem
 try with_reducible refine JS ?_
 first|refine HM O_|skip
 refine HM (wpAny_sequenceKey ht.typeIs c! ?_);refine HM (JZ (name:=tw!) ht.typeIs PB
  (JR PB ht.typeIs entry_tuple_getitem ?_ (args_tuple_getitem _ _)))
 show wpAny _ _ (Builtin.Tuple.tupleItemsOf iW!>>=_) _ _ s;refine HM (tupleItemsOf_ ht ?_);refine HM (RJ VN ?_);rw[IB c!];refine HM (pU hs pl pu ?_);have VO:¬(tx!=true):=by
  intro q;rw[JD,JD]at q;have q1:tw_=0:=eq_of_beq q.1.1;have q2:sIx items.size items.size hi - sIx items.size 0 lo=c0!:=eq_of_beq q.2;exact hw ⟨s_,s_⟩
 show wpAny _ _ (if tx!=true then _ else _) _ _ s;rw[IF VO,b6c]
 first
  |exact HM (m:=i1_) (KY i2! ux)
  |exact HM (m:=i1_) (KY (HM (HP i2!)) ux)
  |exact HM (HM (m:=i1_) (KY (HP i2!) ux))
  |exact HM (HM (m:=i1_) (KY i2! ux))
end
end HT
namespace L2
open PySem PySem.Spec PyProof.Rows
abbrev TO:=St->Hp->(Option Int->Hp->Prop)->Prop
def PO(X:Cx)(e:Option Expr)(t:TO):Prop:=
 ∀(Y:k_) (s:z6!) (Z:St) (H:Hp) (Q:tz_),Inv X Y Z H s->t Z H Q->
  wpAny e! X.A (evalPart e X.env) (λu s'=>∃o H',Inv X Y Z H' s'/\IsPart u o/\Q o H') X.xe s
def Xo:TO:=λ_ H Q=>Q none H
def BA(t:TE):TO:=λZ H Q=>t Z H λx H1=>∃i,x=.int i/\Q (some i) H1
def vE{ns:r!}:∀{us:g_},Ax bY_ us->IntsAre us ns:=by
 induction ns with
 |nil=>intro us r;rw[NN]at r;cases r;exact .nil
 |cons n ns ih=>
  intro us r;rw[IE]at r;cases r with
  |cons r1 r2=>
   obtain⟨t,e⟩:=r1;subst e;exact .cons n t (ih r2)
section
variable{X:Cx}{e:Expr}{te:TE}{lo hi:Option Expr}{tl th:TO}{pos p2:Pos}
def c1w:PO X none Xo:=by intro Y s Z H Q I h;rw[evalPart_none];exact HP ⟨none,H,I,bX!,h⟩
def c1v(h:ch!):PO X ik! (BA te):=by intro Y s Z H Q I hw;rw[evalPart_some];refine cX lP_ λu s1 ⟨x,H1,I1,r1,q1⟩=>?_;obtain⟨i,rfl,q⟩:=q1;obtain⟨t,rfl⟩:=r1;exact⟨G_,H1,I1,.int i t,q⟩
def Zb(X:Cx)(r:i2_):Prop:=
 ∀(Y:k_) (s:z6!) (Z:St) (H:Hp) (x:V) (v vl vu:xT!) (lo hi:aW!) (sl:xz!) (Q:VK),Inv X Y Z H s->Bl x v->s.heap.IsSliceOf sl vl vu .none->IsPart vl lo->IsPart vu hi->r x lo hi H Q->
  ∃T id,typeLookup dI! "__getitem__"=pure (some eF_)/\s.TypeIs v T/\wpAny e! X.A (getItem v i0!) aD! X.xe s
def Zb.or{r r':i2_}(h:Zb X r)(h':Zb X r'):Zb X (λx lo hi H Q=>r x lo hi H Q\/r' x lo hi H Q):=by
 intro Y s Z H x v vl vu lo hi sl Q I rx hs pl pu q;obtain q|q:=q
 .exact h Y s Z H x v vl vu lo hi sl Q I rx hs pl pu q
 .exact h' Y s Z H x v vl vu lo hi sl Q I rx hs pl pu q
def GU(r:i2_)(te:TE)(tl th:TO):TE:=λZ H Q=>te Z H λx H1=>tl Z H1 λl H2=>th Z H2 λu H3=>r x l u H3 Q
def b6h{r:i2_}(hr:Zb X r)(he:ch!)(hl:PO X lo tl)(hu:PO X hi th):PE X (.Subscript e m5! pos) (GU r te tl th):=by intro Y s Z H Q I h;refine Subscript_ rs_;refine wpAny_Slice (cX (hl Y s1 Z H1 _ I1 q1) λvl s2 ⟨l,H2,I2,pl,q2⟩=>cX (hu Y s2 Z H2 _ I2 q2) λvu s3 ⟨u,H3,I3,pu,q3⟩=>?_);rw[evalPart_none];refine HP ?_;have I4:Inv X Y Z H3 {s3 with heap:=s3.heap.push {cls:=.type "slice",data:=.fields #[vl,vu,.none]}}:=I3.kept (t':=s3.toks) λb ob q=>HU _ q;obtain⟨T,id,hT,ht,hg⟩:=hr Y {s3 with heap:=s3.heap.push {cls:=.type "slice",data:=.fields #[vl,vu,.none]}} Z H3 x v vl vu l u s3.heap.objs.size Q I4 r1 (Heap.IsSliceOf.new ..) pl pu q3;show wpAny e! X.A (subscriptTail e m5! v (.ref tB_)) aD! X.xe {s3 with heap:=s3.heap.push {cls:=.type "slice",data:=.fields #[vl,vu,.none]}};exact tail_any (ops:=[.ref tB_,v]) ht hT hg (by with_unfolding_all rfl)
def Tp(xs:m_)(lo hi:aW!):List V:=(xs.drop m5_).take m6!
def rR(xs:m_)(lo hi:aW!):(gp_).length<=i_:=by unfold Tp;rw[NQ,SG];omega
def EQ(K:zY!):V->Option Int->Option Int->Hp->VK->Prop:=λx lo hi H Q=>∃a xs,x=.ref a/\Fy K H a xs/\
 ¬(HT.sIx xs.length 0 lo=0/\HT.sIx xs.length xs.length hi=i_)/\∀p,H p=none->Q cl! (upd H p (.tup gp_))
def c6f:Zb X (EQ X.K):=by
 intro Y s Z H x v vl vu lo hi sl Q I rx hs pl pu h;obtain⟨a,xs,rfl,hx,hw,q⟩:=h;cases rx;obtain⟨its,r,ht,hz⟩:=I.tuple hx;have av:bC!=i_:=by rw[HY];exact r.length.symm
 refine⟨"tuple",_,PB.lookup,ht.typeIs,?_⟩;refine HT.getItem_tuple_cut ht hs pl pu (by rw[av];exact hw) ?_ (by rw[av];exact hz);rw[av];refine⟨dK_,_,I.laid (t':=s.toks) (o:=.tup gp_) m6_ v_ ?_,rfl,q _ eE!⟩;exact⟨tE_,_,tF_,IsTup.new _ _⟩
def Yu(K:zY!):R2:=λx y H Q=>∃a b xs ys,x=.ref a/\y=.ref b/\Fy K H a xs/\Fy K H b ys/\xs≠[]/\i_+ah!<=sizeLine/\
 (ys=[]->Q F! H)/\(ys≠[]->∀p,H p=none->Q cl! (upd H p (.tup ef_)))
def Ax.nil_iff{xs:m_}(r:hN_):us=[]↔xs=[]:=by
 cases r with
 |nil=>simp
 |cons _ _=>simp
def c2h:Gv X es! (Yu X.K):=by intro Y s Z H x y v u Q I rx ry h;obtain⟨a,b,xs,ys,rfl,rfl,ha,hb,hx,hz,q1,q2⟩:=h;cases rx;cases ry;obtain⟨its,r1,p1,_⟩:=I.tuple ha;obtain⟨gj,r2,p2,_⟩:=I.tuple hb;refine HT.cat_tup p1 p2 (λz=>hx (r1.nil_iff.mp z)) (λz=>⟨bA!,H,I,rfl,q1 (r2.nil_iff.mp z)⟩) (λz=>?_) (by rw[<-r1.length,<-r2.length];exact hz);refine⟨dK_,_,I.laid (t':=s.toks) (o:=.tup ef_) m6_ v_ ?_,rfl,q2 (λw=>z (r2.nil_iff.mpr w)) _ eE!⟩;exact⟨by rw[JA];exact hz,_,r1.append r2,IsTup.new _ _⟩
end
end L2
namespace L2
open PySem PySem.Spec PyProof.Rows
def Du(n:Nat)(i:Int):Option Nat:=if 0<=i then(if i<n then some i.toNat else none)else if -(n:Int)<=i then some (i+n).toNat else none
def Cs{α:Type}(xs:O!)(i:Int):Option α:=(Du xs.length i).bind λj=>xs[j]?
def b0y{n:Nat}{i:Int}{j:Nat}(h:Du n i=some j):seqIndex? i n=some j/\j<n/\-(n:Int)<=i/\i<n:=by
 unfold Du at h;by_cases h0:0<=i
 .rw[IB h0]at h;by_cases J:i<n
  .rw[IB J]at h;have e:i.toNat=j:=JX h;exact⟨by rw[seqIndex_of h0 J,e],s_,s_,J⟩
  .rw[IF J]at h;cases h
 .rw[IF h0]at h;by_cases J:-(n:Int)<=i
  .rw[IB J]at h;have e:(i+n).toNat=j:=JX h;exact⟨by rw[seqIndex_neg a! J,e],s_,J,s_⟩
  .rw[IF J]at h;cases h
def a1w{α:Type}{xs:O!}{i:Int}{v:α}(h:Cs xs i=some v):∃j,seqIndex? i i_=some j/\xs[j]?=some v/\j<i_/\-i4_<=i/\i<i_:=by
 unfold Cs at h;cases e:Du xs.length i with
 |none=>rw[e]at h;cases h
 |some j=>
  rw[e]at h;obtain⟨J,h2,h3,h4⟩:=b0y e;exact⟨j,J,h,h2,h3,h4⟩
def Nu(b:Expr):Prop:=∀o i,subscripted b false o i=operate [o,i] (getItem o i)
def Vi(X:Cx)(r:R2):Prop:=
 ∀(value f8:Expr) (Y:k_) (s:z6!) (Z:St) (H:Hp) (x y:V) (v u:xT!) (Q:VK),Inv X Y Z H s->Bl x v->Bl y u->r x y H Q->
  subscripted f8 false v u=operate [v,u] (getItem v u)->wpAny e! X.A (subscriptTail value f8 v u) aD! X.xe s
def GM(X:Cx)(id:String)(r:m8_):Prop:=
 ∀(Y:k_) (s:z6!) (Z:St) (H:Hp) (x:V) (xs:m_) (v:xT!) (us:g_) (Q:VK),Inv X Y Z H s->Bl x v->Ax xs us->r x xs H Q->
  wpAny e! X.A uO! aD! X.xe s
section
variable{X:Cx}{a b:Expr}{ta tb:TE}{pos:Pos}
def Vi.or{r r':R2}(h:gD_)(h':Vi X r'):Vi X sh!:=by
 intro value f8 Y s Z H x y v u Q I rx ry q hs;obtain q|q:=q
 .exact h value f8 Y s Z H x y v u Q I rx ry q hs
 .exact h' value f8 Y s Z H x y v u Q I rx ry q hs
def b0a{r:R2}(hr:gD_)(ha:aU!)(hb:cf!)(hs:Nu b):PE X i5_ iz_:=by intro Y s Z H Q I h;exact Subscript_ (c9v ha hb I h λv u s2 x y H2 I2 rx ry q=>hr a b Y s2 Z H2 x y v u Q I2 rx ry q (hs _ _))
def BO(K:zY!):R2:=λx y H Q=>∃p xs i v,x=.ref p/\y=.int i/\Fh K H p xs/\Cs xs i=some v/\Q v H
def BM(K:zY!):R2:=λx y H Q=>∃p xs i v,x=.ref p/\y=.int i/\Fy K H p xs/\Cs xs i=some v/\Q v H
def BN:R2:=λx y H Q=>∃z i c,x=.str z/\y=.int i/\i7!<=sizeLine/\Cs z.cps.toList i=some c/\Q gs_ H
def b0x:Vi X (BO X.K):=by
 intro value f8 Y s Z H x y v u Q I rx ry h hs;obtain⟨p,xs,i,z,rfl,rfl,hq,he,q⟩:=h;cases rx;obtain⟨t,rfl⟩:=ry;show"!M";obtain⟨j,J,h2,h3,h4,h5⟩:=a1w he;obtain⟨w,ew,az⟩:=r.get h2;have hl:=aL_;have hn:=qP;have fin:EP X Y Z Q w s:=tJ!;by_cases h0:0<=i
 .have hj:i.toNat=j:=by
   rw[seqIndex_of h0 h5]at J;exact JX J
  exact item_listR pl.isList h0 a! tI_ fin hs
 .have hj:(i+(bC!:Int)).toNat=j:=by
   rw[seqIndex_neg a! h4]at J;rw[HY,<-hl];exact JX J
  exact subscriptTail_builtinR (x:=w) pl.isList.typeIs tK!
   (wpAny_getItem_list_neg (Q:=tJ_) pl.isList a! tK_ a! tI_ ⟨rfl,fin⟩) hs
def c8h:Vi X (BM X.K):=by
 intro value f8 Y s Z H x y v u Q I rx ry h hs;obtain⟨p,xs,i,z,rfl,rfl,hq,he,q⟩:=h;cases rx;obtain⟨t,rfl⟩:=ry;obtain⟨its,r,pl,hz⟩:=I.tuple hq;obtain⟨j,J,h2,h3,h4,h5⟩:=a1w he;obtain⟨w,ew,az⟩:=r.get h2;have hl:=aL_;have hn:=qP;have fin:EP X Y Z Q w s:=tJ!;exact subscriptTail_builtinR (x:=w) pl.typeIs slot_tuple_getitem.lookup
  (getItem_tuple (j:=j) (Q:=tJ_) pl a! a! (by rw[HY,<-hl];exact J) (by simpa using ew) ⟨rfl,fin⟩) hs
def c8i:Vi X BN:=by
 intro value f8 Y s Z H x y v u Q I rx ry h hs;obtain⟨z,i,c,rfl,rfl,hz,he,q⟩:=h;obtain⟨t,rfl⟩:=rx;obtain⟨t',rfl⟩:=ry;obtain⟨j,J,h2,h3,h4,h5⟩:=a1w he;have hl:z.cps.toList.length=i7!:=by simp[Str.length]
 rw[hl]at J h4 h5;have hn:=qP;exact tail_any (typeIs_str s z t) slot_str_getitem.lookup (getItem_str (c:=c) (by
  have e1:decide (i< -(2 ^ 63:Int))=false:=IG a!;have e2:decide (i>=2 ^ 63)=false:=IG a!;rw[e1,e2,Bool.or_false]) (by rw[J];simpa using h2) ⟨eK_,H,aU_,L_,q⟩) hs
def ET(K:zY!):R2:=λx y H Q=>BO K x y H Q\/BM K x y H Q\/BN x y H Q
def aH:Vi X (ET X.K):=b0x.or (c8h.or c8i)
def a7s(its:g_)(n j:Nat)(u:xT!):Obj.mapSeq tM! {cls:=.type "list",data:=.seq its.toArray n}={cls:=.type "list",data:=.seq (its.set j u).toArray n}:=by simp[Obj.mapSeq]
def Inv.lst{Y:k_}{Z:St}{H:Hp}{s:z6!}{p:xz!}{xs:m_}(I:d!)(h:H p=some Q_):
  ∃(its:g_) (n:Nat),Ax xs its/\s.heap.get? p=some {cls:=.type "list",data:=.seq its.toArray n}/\i_<=sizeLine:=by
 obtain⟨z,its,n,r,e⟩:=I.hok p _ h;exact⟨its,n,r,e,z⟩
def Inv.lstUpd{Y:k_}{Z:St}{H:Hp}{s:z6!}{p:xz!}{xs ys:m_}{its its':g_}{n n':Nat}{f:Obj->Obj}(I:d!)(h:H p=some Q_)
  (ho:s.heap.get? p=some {cls:=.type "list",data:=.seq its.toArray n})(hf:f {cls:=.type "list",data:=.seq its.toArray n}={cls:=.type "list",data:=.seq its'.toArray n'})(r:Ax ys its')(hz:i9!)(t:Nat):
  Inv X Y Z (upd H p bb!) {s with heap:=s.heap.update p f,toks:=t}:=by
 have e:(s.heap.update p f).get? p=some {cls:=.type "list",data:=.seq its'.toArray n'}:=by
  rw[LF f ho (by rw[hf]<;>rfl),hf]
 refine I.write (x:=p) (e:=p) (by rw[h];trivial) aj_ (λb u hb q=>(JI _ _ eL!).trans q) bq_ ?_;exact⟨hz,its',n',r,e⟩
def BJ:V->V->V->Hp->lX_->Prop:=λo i v H Q=>∃p xs k j,o=.ref p/\i=.int k/\H p=some Q_/\Du xs.length k=some j/\Q tO!
def a2h:Vw X BJ:=by
 intro Y s Z H o i v ov iv u Q I ro ri rv h;obtain⟨p,xs,k,j,rfl,rfl,hp,hj,q⟩:=h;cases ro;obtain⟨t,rfl⟩:=ri;obtain⟨its,n,r,ho,hz⟩:=I.lst hp;obtain⟨J,h2,h3,h4⟩:=b0y hj;have hl:=aL_;have hn:=qP;have I':Inv X Y Z tO! {s with heap:=s.heap.update p (Obj.mapSeq tM!)}:=
  I.lstUpd hp ho (a7s its n j u) (r.set rv j) (by rw[MM];exact hz) s.toks
 by_cases h0:0<=k
 .have hk:k.toNat=j:=by
   rw[seqIndex_of h0 h4]at J;exact JX J
  exact W.ki_setAt ho h0 a! (by rw[HY,<-hl];exact h4) tQ!
 .have hk:(k+(bC!:Int)).toNat=j:=by
   rw[seqIndex_neg a! h3]at J;rw[HY,<-hl];exact JX J
  exact W.ki_setBack ho a! (by rw[HY,<-hl];exact h3) a! tQ!
def zA(lo hi:aW!)(n:Nat):(na!).1=((HT.sIx n 0 lo:Nat):Int)/\(na!).2.1=((HT.sIx n n hi:Nat):Int)/\(na!).2.2=1:=by
 refine⟨?_,?_,rfl⟩
 .cases lo with
  |none=>simp[sliceBounds,HT.sIx]
  |some i=>
   show"!h"
   .simp only[h,KA]<;>omega
   .simp only[h,JT]<;>omega
 .cases hi with
  |none=>simp[sliceBounds,HT.sIx]
  |some i=>
   show"!h"
   .simp only[h,KA]<;>omega
   .simp only[h,JT]<;>omega
def vU(its:g_)(lo hi:aW!):slicePick its.toArray lo hi none=((its.drop (HT.sIx its.length 0 lo)).take (HT.sIx its.length its.length hi - HT.sIx its.length 0 lo)).toArray:=by obtain⟨J,h2,h3⟩:=zA lo hi bC!;unfold slicePick;rw[J,h2,h3];simp only[sliceRange_one,pick_run,HY]<;>rfl
def ER(K:zY!):V->Option Int->Option Int->Hp->VK->Prop:=λx lo hi H Q=>∃a xs,x=.ref a/\Fh K H a xs/\∀p,H p=none->Q cl! (upd H p (.lst gp_))
def c1e:Zb X (ER X.K):=by intro Y s Z H x v vl vu lo hi sl Q I rx hs pl pu h;obtain⟨a,xs,rfl,hx,q⟩:=h;cases rx;obtain⟨its,r,ht,hz⟩:=I.list hx;have av:=aL_;refine⟨"list",_,tK!,ht.isList.typeIs,?_⟩;refine wpAny_getItem_list_slice ht.isList hs pl pu .none b_ ?_ tK_;rw[vU,<-av];refine⟨dK_,_,I.laid (t':=s.toks) (o:=.lst gp_) m6_ v_ ?_,rfl,q _ eE!⟩;exact⟨tE_,_,0,tF_,dy!⟩
def Mq:V->Bool
 |.non=>true
 |.bl _=>true
 |.int _=>true
 |.str _=>true
 |_=>false
def Xj:V->V->Bool
 |.non,.non=>true
 |.bl a,.bl b=>a==b
 |.bl a,.int b=>tT!==b
 |.int a,.bl b=>a==tT_
 |.int a,.int b=>a==b
 |.str a,.str b=>a==b
 |_,_=>false
def c8s{A:x8!}{s:z6!}{y x:V}{u v:xT!}(ry:Bl y u)(rx:Bl x v)(fy:Mq y=true)(fx:Mq x=true):SeqAt.EqAt A s u v (Xj y x):=by
 cases y with
 |non=>
  cases ry;cases x with
  |non=>cases rx;exact SeqAt.EqAt.same _
  |bl b=>cases rx;exact SeqAt.EqAt.none_bool b
  |int b=>obtain⟨t,rfl⟩:=rx;exact SeqAt.EqAt.none_int b t
  |str b=>obtain⟨t,rfl⟩:=rx;exact SeqAt.EqAt.none_str b t
  |_=>exact absurd jb! IV
 |bl a=>
  cases ry;cases x with
  |non=>cases rx;exact SeqAt.EqAt.bool_none a
  |bl b=>cases rx;exact SeqAt.EqAt.bool_bool a b
  |int b=>obtain⟨t,rfl⟩:=rx;exact SeqAt.EqAt.bool_int a b t
  |str b=>obtain⟨t,rfl⟩:=rx;exact SeqAt.EqAt.bool_str a b t
  |_=>exact absurd jb! IV
 |int a=>
  obtain⟨t',rfl⟩:=ry;cases x with
  |non=>cases rx;exact SeqAt.EqAt.int_none a t'
  |bl b=>cases rx;exact SeqAt.EqAt.int_bool a t' b
  |int b=>obtain⟨t,rfl⟩:=rx;exact QR a t' b t
  |str b=>obtain⟨t,rfl⟩:=rx;exact SeqAt.EqAt.int_str a t' b t
  |_=>exact absurd jb! IV
 |str a=>
  obtain⟨t',rfl⟩:=ry;cases x with
  |non=>cases rx;exact SeqAt.EqAt.str_none a t'
  |bl b=>cases rx;exact SeqAt.EqAt.str_bool a t' b
  |int b=>obtain⟨t,rfl⟩:=rx;exact SeqAt.EqAt.str_int a t' b t
  |str b=>obtain⟨t,rfl⟩:=rx;exact SeqAt.EqAt.str_str a t' b t
  |_=>exact absurd jb! IV
 |_=>exact absurd (show false=true from fy) IV
def Ye(x:V)(u:xT!):Bool:=match u with
 |.none=>Xj .non x
 |.bool b=>Xj bl! x
 |.int i _=>Xj ak_ x
 |.str z _=>Xj (.str z) x
 |_=>false
def b9i{x y:V}{u:xT!}(r:Bl y u)(f:Mq y=true):Ye x u=Xj y x:=by
 cases y with
 |non=>cases r;rfl
 |bl b=>cases r;rfl
 |int i=>obtain⟨t,rfl⟩:=r;rfl
 |str z=>obtain⟨t,rfl⟩:=r;rfl
 |_=>exact absurd (show false=true from f) IV
def a1y{x:V}:∀{xs:m_} {us:g_},Ax xs us->xs.all Mq=true->us.any gu_=xs.any λy=>Xj y x
 |_,_,.nil,_=>rfl
 |y::xs,u::us,.cons r t,f=>by
  rw[OD,JD]at f;rw[NC,NC,b9i r f.1,a1y t f.2]
def uO{A:x8!}{s:z6!}{x:V}{v:xT!}(rx:Bl x v)(fx:Mq x=true):∀{xs:m_} {us:g_},Ax xs us->xs.all Mq=true->∀u∈us,SeqAt.EqAt A s u v (Ye x u)
 |_,_,.nil,_=>λu hu=>by cases hu
 |y::xs,u::us,.cons r t,f=>λu' hu=>by
  rw[OD,JD]at f;obtain rfl|hu:=HV.mp hu
  .rw[b9i r f.1];exact c8s r rx f.1 fx
  .exact uO rx fx t f.2 u' hu
def DC(x:V)(xs:m_):Bool:=xs.any λy=>Xj y x
def EU(K:zY!)(neg:Bool):R2:=λx y H Q=>∃p xs,y=.ref p/\(Fh K H p xs\/Fy K H p xs)/\Mq x=true/\xs.all Mq=true/\Q (.bl (if neg then !DC x xs else DC x xs)) H
def b2r:Gv X jb_ (EU X.K false):=by
 intro Y s Z H x y v u Q I rx ry h;obtain⟨p,xs,rfl,hq,fx,fs,q⟩:=h;cases ry;obtain hq|hq:=hq
 .show"!M";refine SeqAt.in_listAt gu_ pl.isList tW! eM_;rw[tW_,a1y r fs];exact q
 .show"!u";refine SeqAt.in_tupleAt gu_ pl tW! eM_;rw[tW_,a1y r fs];exact q
def a1u:Ir X eN! (λxs H Q=>∃p ys,xs=jc!/\(Fh X.K H p ys\/Fy X.K H p ys)/\∀l,H l=none->Q (.ref l) nc_):=by
 intro Y s Z H xs us Q I r h;obtain⟨p,ys,rfl,hq,q⟩:=h;obtain⟨u,rfl,rx⟩:=mT r;cases rx;have fin:∀(its:g_),Ax ys its->ah!<=sizeLine->∀(h':Heap) (c':Nat),(∀b o',s.heap.get? b=some o'->h'.get? b=some o')->
   h'.get? g!=some {cls:=.type "list",dict:=none,data:=.seq its.toArray c',slots:=#[]}->EP X Y Z Q bl_ {s with heap:=h'}:=λits r' hz h' c' kp e=>
  ⟨dK_,_,I.laid (t':=s.toks) kp v_ (show Eo X.prog X.w _ h' _ bb! from⟨hz,its,c',r',e⟩),rfl,q _ eE!⟩
 obtain hq|hq:=hq
 .obtain⟨its,r',pl,hz⟩:=I.list hq;have av:=iH!;obtain⟨o,ho,hc,n,hd⟩:=pl.isList;exact call_list_seq p aj_ ho hc hd tX! tX_
 .obtain⟨its,r',pl,hz⟩:=I.tuple hq;have av:=iH!;obtain⟨o,ho,hc,n,hd⟩:=pl;exact call_list_seq p gv! ho hc hd tX! tX_
def FN(K:zY!)(T:String)(x:V)(H:Hp):Prop:=match x with
 |.str _=>T="str"
 |.int _=>T="int"
 |.ref p=>(T="list"/\∃xs,Fh K H p xs)\/(T="tuple"/\∃o,K.lookup p=some o/\o.cls=.type "tuple"/\o.dict=none)\/
   (T="dict"/\((∃h1,H p=some dC_)\/∃h1,H p=some jc_))\/(T="set"/\∃S n,H p=some (.set S n))
 |_=>False
def c5z{Y:k_}{Z:St}{H:Hp}{s:z6!}{T:String}{x:V}{v:xT!}(I:d!)(r:Bl x v)(ty:FN X.K T x H):
  s.TypeIs v T/\∀a,v=.ref a->∃ob,s.heap.get? a=some ob/\ob.dict=none:=by
 cases x with
 |str z=>
  obtain⟨t,rfl⟩:=r;cases (show T="str" from ty);exact⟨typeIs_str s z t,tZ!⟩
 |int i=>
  obtain⟨t,rfl⟩:=r;cases (show T="int" from ty);exact⟨typeIs_int s i t,tZ!⟩
 |ref p=>
  cases r;obtain⟨rfl,xs,hq⟩|⟨rfl,o,hk,hc,hd⟩|⟨rfl,hk⟩|⟨rfl,S,n,hk⟩:=ty
  .obtain⟨its,_,pl,_⟩:=I.list hq;refine⟨pl.isList.typeIs,λa e=>?_⟩;cases e;obtain⟨o,n,e,c,hd,_⟩:=pl;exact⟨o,e,hd⟩
  .refine⟨⟨o,I.kIn p o hk,hc⟩,λa e=>?_⟩;cases e;exact⟨o,I.kIn _ o hk,hd⟩
  .have z:∃o,s.heap.get? p=some o/\hP_:=by
    obtain⟨h1,hk⟩|⟨h1,hk⟩:=hk
    .show"!o"
    .show"!o"
   obtain⟨o,e,ex⟩:=z;refine t1!;cases e2;exact t1_
  .obtain⟨o,_,_,_,e,ex,_⟩:=I.hok p _ hk;refine t1!;cases e2;exact t1_
 |_=>exact False.elim ty
def GX(K:zY!)(T:String)(r:m8_)(to:TE)(t:TA):TE:=λZ H Q=>to Z H λx H1=>FN K T x H1/\t Z H1 λxs H2=>r x xs H2 Q
variable{o e:Expr}{es:List Expr}{to:TE}{t:TA}{name:Str}{ay ai:Pos}{T id:String}{r:V->List V->Hp->VK->Prop}
def a3e(pa:PlainAttrs T)(slot:Slot T name id)(uy:typeOf eF_=pure (.type "method_descriptor"))(hm:GM X id r)(ho:PE X o to)(ha:eC!)
  (ij:attributeBase o name X.env dw_=eval o X.env:=by rfl)
  (ik:((backTo ai s8!).all c3_&&(c4!).all c4_
   &&decide ((aD_).length+(dM_).length+eO!<30))=true:=by rfl)
  (io:eO_:=by rfl) (hs:ag!:=by rfl) (ip:(t5_).any c_=false:=by rfl):
  PE X (.Call (.Attribute o name ay) aD_ [] ai) (GX X.K T r to t):=by
 show"!F";refine wpAny_Call_method_late ij ik io rfl (cX rr_ λv s1 ⟨x,H1,I1,r1,ty,q1⟩=>?_);obtain⟨J,h2⟩:=c5z I1 r1 ty;refine⟨T,id,pa,slot,uy,J,h2,?_⟩;have hA:=ha ai Y s1 Z H1 _ I1 q1;rw[hs]at hA ⊢;refine OF (by show(false||(t5_).any c_)=false;rw[ip]<;>rfl) (NP ?_);exact cX hA λus s2 ⟨vs,H2,I2,r2,q2⟩=>hm Y s2 Z H2 x vs v us Q I2 r1 r2 q2
end
end L2
namespace L2
open PySem PySem.Spec PyProof.Rows
def FH(X:Cx)(id:String)(r:m8_):Prop:=
 ∀(Y:k_) (s:z6!) (Z:St) (H:Hp) (x:V) (xs:m_) (v:xT!) (us:g_) (Q:VK),Inv X Y Z H s->Bl x v->Ax xs us->r x xs H Q->
  wpAny e! X.A uO! aD! X.xe s
def Ax.one:∀{x:V} {us:g_},Ax [x] us->∃u,us=[u]/\Bl x u
 |_,_,.cons r .nil=>lf!
def Ax.rep{xs:m_}(h:hN_):∀k:Nat,Ax (t6!).flatten (List.replicate k us).flatten
 |0=>.nil
 |k+1=>by
  rw[ML,ML,OB,OB];exact Ax.append h (Ax.rep h k)
def yB(its:g_):∀(k:Nat) (acc:g_),
  List.foldl nh! acc.toArray (List.replicate k a1!)=(acc++(t7!).flatten).toArray
 |0,acc=>by simp
 |k+1,acc=>by
  have e:acc.toArray++a1!=(ni!).toArray:=by simp
  have e2:ni!++(t7!).flatten=acc++(List.replicate M_ its).flatten:=by
   rw[ML,OB,KL]
  rw[<-e2,<-yB its k ni!,<-e,ML,NX]
section
variable{X:Cx}{Y:List (Addr×Obj)}{Z:St}{H:Hp}{s:z6!}{l b:xz!}{xs ys zs:List V}
def Inv.lset{its its':g_}{n:Nat}{f:Array Value->Array Value}{t':Nat}(I:d!)(hH:H l=some Q_)
  (e:s.heap.get? l=some {cls:=.type "list",data:=.seq its.toArray n})(hf:f a1!=its'.toArray)(hv:Ax ys its')(hz:i9!):
  Inv X Y Z nc_ {s with heap:=s.heap.update l t9!,toks:=t'}:=by
 have q:=PySem.IsL.update e f;rw[hf]at q;refine I.write (x:=l) (e:=l) (by rw[hH];exact trivial) aj_ (λb' u hb hu=>(JI s.heap t9! eL!).trans hu) ⟨_,q⟩ ?_;exact⟨hz,its',_,hv,q⟩
def Inv.lnew{its:g_}{t':Nat}(I:d!)(hv:Ax ys its)(hz:i9!):
  Inv X Y Z (upd H s.heap.objs.size bb!) {s with heap:=s.heap.push {cls:=.type "list",data:=.seq a1!},toks:=t'}:=
 I.laid ua_ v_ ⟨hz,its,0,hv,dy!⟩
def Inv.fresh(I:d!):H g!=none:=I.hok.fresh v_
def Inv.lstM(I:d!)(hH:H l=some Q_):i_<=sizeLine/\∃(its:g_) (n:Nat),Ax xs its/\i_=gy!/\s.heap.get? l=some {cls:=.type "list",data:=.seq its.toArray n}:=by obtain⟨z,its,n,r,e⟩:=I.hok l _ hH;exact⟨z,its,n,r,aL_,e⟩
def a3m{n:Nat}(h:ni_):Builtin.List.listTooLong n=false:=by unfold Builtin.List.listTooLong;exact IG a!
end
section
variable{X:Cx}
def Xu:V->List V->Hp->VK->Prop:=λx vs H Q=>∃l xs y,x=.ref l/\vs=[y]/\H l=some Q_/\i_<sizeLine/\Q .non (upd H l (.lst (xs++[y])))
def xP:FH X "list.append" Xu:=by intro Y s Z H x vs v us Q I rx rv h;obtain⟨l,xs,y,rfl,rfl,hH,hz,q⟩:=h;cases rx;obtain⟨u,rfl,ru⟩:=rv.one;obtain⟨z,its,n,r,hl,e⟩:=I.lstM hH;refine RS F.slot_list_append dN! F.entry_list_append (F.args_list_append_2 _ _) (PySem.list_append l its.toArray n u ub_) je_;refine⟨.non,_,I.lset (its':=its++[u]) hH e b_ (r.append ud!) ?_,rfl,q⟩;rw[JA,LQ];omega
def Xt:V->List V->Hp->VK->Prop:=λx vs H Q=>∃l b xs zs,x=.ref l/\vs=[.ref b]/\H l=some Q_/\H b=some (.lst zs)/\i_+zs.length<=sizeLine/\Q .non (upd H l ue_)
def b3d:FH X "list.extend" Xt:=by
 intro Y s Z H x vs v us Q I rx rv h;obtain⟨l,b,xs,zs,rfl,rfl,hH,hB,hz,q⟩:=h;cases rx;obtain⟨u,rfl,ru⟩:=rv.one;cases ru;obtain⟨z,its,n,r,hl,e⟩:=I.lstM hH;obtain⟨z2,gj,n2,r2,hl2,e2⟩:=I.lstM hB;have hsz:bC!+uf!<=sizeLine:=by rw[HY,HY];omega
 have we:¬(! mu_&&Builtin.List.listTooLong (bC!+uf!))=true:=by
  rw[a3m hsz,RE];exact IV
 refine RS F.slot_list_extend dN! F.entry_list_extend (F.args_list_extend_2 _ _)
  (AutoSeq1.list_extend_list_list_0 l its.toArray n b gj.toArray n2 we ub_ a!) ⟨e,e2,?_⟩
 refine⟨.non,_,I.lset (its':=its++gj) hH e b_ (r.append r2) ?_,rfl,q⟩;rw[JA];omega
def ES:R2:=λx y H Q=>∃l k xs,x=.ref l/\y=.int k/\H l=some Q_/\-(2 ^ 63)<=k/\k<2 ^ 63/\i_*k.toNat<=sizeLine/\
 ∀p,H p=none->Q cl! (upd H p (.lst (List.replicate k.toNat xs).flatten))
def c3c{α:Type}(xs:O!)(k:Nat):(t6!).flatten.length=k*i_:=by
 induction k with
 |zero=>simp
 |succ k ih=>rw[ML,OB,JA,ih,Nat.succ_mul,Nat.add_comm]
def b6q:Gv X r9_ ES:=by
 intro Y s Z H x y v u Q I rx ry h;obtain⟨l,k,xs,rfl,rfl,hH,J,h2,hz,q⟩:=h;cases rx;obtain⟨t,rfl⟩:=ry;obtain⟨z,its,n,r,hl,e⟩:=I.lstM hH;have av:bC!*k.toNat<=sizeLine:=by rw[HY,<-hl];exact hz
 have VP:¬bC!*k.toNat>(2 ^ 63 - 1) / 8:=by
  have:(sizeLine:Nat)<=(2 ^ 63 - 1) / 8:=by decide
  omega
 have wf:¬(!Builtin.List.listFitsIndex k)=true:=by
  rw[fitsIndex_both J h2];exact IV
 have we:¬Builtin.List.listTooLong (bC!*k.toNat)=true:=by
  rw[a3m av];exact IV
 have pv:List.foldl nh! #[] (List.replicate (if mu_=true then 0 else k.toNat) a1!)=(List.replicate k.toNat its).flatten.toArray:=by
  have f0:∀m:Nat,List.foldl nh! #[] (List.replicate m a1!)=(List.replicate m its).flatten.toArray:=λm=>by
   have:=yB its m [];rw[KP]at this;exact this
  rw[f0];cases its with
  |nil=>simp
  |cons a r'=>rw[T_]
 refine wpAny_binaryOp_repeat_ref (T:="list") (U:="int") c! dN! (λs'=>typeIs_int s' k t) noFill_list_mul F.fills_int_mul F.slot_int_rmul repeat_list F.slot_int_index.lookup
  (RS F.slot_int_rmul (typeIs_int s k t) F.entry_int_rmul (F.args_int_rmul_2 _ _) (int___rmul___int_list k t l its.toArray n)
   ⟨e,rfl,dN!,RS F.slot_list_mul dN! F.entry_list_mul (F.args_list_mul_2 _ _) (AutoListH.list___mul___list_int_3 l its.toArray n k t wf VP we) je_⟩)
 rw[pv];exact⟨.ref _,_,I.lnew (t':=s.toks) (r.rep k.toNat) (by rw[c3c,Nat.mul_comm];exact hz),rfl,q _ I.fresh⟩
end
end L2
namespace L2
open PySem PySem.Spec PyProof.Rows
section
variable{κ:Type} [DecidableEq κ]
def Mz(h1:f5!)(k:κ):Option V:=(h1.find? λkv=>decide (kv.1=k)).map M!
def b4n{p:κ×V}{r:f5!}{k:κ}(e:p.1=k):Mz (p::r) k=some p.2:=by simp[Mz,MQ,e]
def b4o{p:κ×V}{r:f5!}{k:κ}(e:¬p.1=k):Mz (p::r) k=Mz r k:=by simp[Mz,MQ,e]
def Nt.isSome_eq{o:Option V}{u:iK!}(r:Nt o u):o.isSome=u.isSome:=by
 cases o with
 |none=>cases u with
  |none=>rfl
  |some _=>exact(iK_).elim
 |some _=>cases u with
  |none=>exact(iK_).elim
  |some _=>rfl
def KV.val{h1:f5!}{vs:List lg!}(r:KV h1 vs)(k:κ):Nt (Mz h1 k) (valueAt vs k):=by
 unfold KV at r
 induction r with
 |nil=>exact iM!
 |@cons p q ps qs h t ih=>
  obtain⟨J,h2⟩:=h;by_cases e:p.1=k
  .have e':q.1=k:=J.symm.trans e;have b:valueAt (q::qs) k=some q.2:=by simp[valueAt,MQ,e']
   rw[b4n e,b];exact h2
  .have e':¬q.1=k:=λz=>e (J.trans z);have b:valueAt (q::qs) k=valueAt qs k:=by simp[valueAt,MQ,e']
   rw[b4o e,b];exact ih
end
def b8n{P:z7!}{w:yO!}{k:Key}{u:xT!}(r:Bl (kV k) u):(bj!).is k u=true:=by
 cases k with
 |inl i=>obtain⟨t,e⟩:=sH!;subst e;exact a3u P w i t
 |inr x=>obtain⟨t,e⟩:=sH_;subst e;exact lS P w x t
def qS{P:z7!}{w:yO!}:∀{ks:List Key} {us:g_},Ax nj_ us->ItemsAre bj! ks us
 |[],_,r=>by rw[NN]at r;cases r;exact .nil
 |k::ks,_,r=>by
  rw[IE]at r;cases r with
  |cons h t=>exact .cons (b8n h) (qS t)
abbrev KT(H:Hp):List (List Key×V)->List lh!->Prop:=Paired λp q=>p.1=q.1/\H q.2.1=some qm_/\Bl p.2 q.2.2
section
variable{P:z7!}{w:yO!}{H:Hp}{h:Heap}{a:xz!}
def d0q{u:HO}(ok:a1_)(e:Rd H a u):Eo P w H h a u:=e.ok ok
def a0z{ks:List Key}(ok:a1_)(e:H a=some (.tup nj_)):(fH!).is h ks a:=by obtain⟨_,its,r,o,J,h2,n,h3⟩:=(show Eo P w H h a (.tup nj_)from ok a _ e);exact⟨o,a1!,n,J,h2,h3,by simpa using qS r⟩
def d1y{h1:hP!}(ok:a1_)(e:Rd H a jc_):ax_<=sizeLine/\dq_=false/\
  ∃xs,KT H h1 xs/\h.DictOfH fH! a xs:=by
 obtain⟨z,y,xs,r,o,es,ep,J,h2,h3,h4,h5⟩:=(show Eo P w H h a jc_ from d0q ok e);refine⟨z,y,xs,r,o,es,ep,J,h2,h3,h4,aB!,h5⟩;have all:∀{l:hP!} {m:List lh!},KT H l m->∀x∈m,(fH!).is h x.1 x.2.1:=by
  intro l m q
  induction q with
  |nil=>intro x hx;exact nomatch hx
  |@cons p q ps qs hq t ih=>
   intro x hx;obtain e|hx:=HV.mp hx
   .subst e;exact a0z ok (by rw[<-hq.1];exact hq.2.1)
   .exact ih x hx
 exact all r x hx
def vL{h1:hP!}(ok:a1_)(e:H a=some jc_):ax_<=sizeLine/\dq_=false/\
  ∃xs,KT H h1 xs/\h.DictOfH fH! a xs:=d1y ok (.inl e)
end
section
variable{X:Cx}{Y:List (Addr×Obj)}{Z:St}{H:Hp}{s:z6!}{a:xz!}{y v:V}{u r:xT!}{o:Option V}{A:x8!}{E:Value->Shared->Prop}
def Inv.big(I:d!):sysModules<g!:=by have h:mainGlobals<g!:=(I.mod.glob.keeps I.bk).lt;exact Nat.lt_trans c! h
def c4j{h':Heap}{t':Nat}{ob:HO}(I:d!)(mu:CM (H a))(hs:ui_)(he:∃q,h'.get? a=some q)(new:Eo X.prog X.w (upd H a ob) h' a ob):
  Inv X Y Z (upd H a ob) {s with heap:=h',toks:=t'}:=
 I.write (x:=a) (e:=a) mu aj_ (λb q hb z=>(hs.2 b hb).trans z) he new
end
def CL(i:Expr):Prop:=∀ov iv,subscripted i false ov iv=operate [ov,iv] (getItem ov iv)
def c1c{prog:z7!}{w:yO!}{A:x8!}{E:l_}{s:z6!}{value:Expr}{pos:Pos}{T id:String}{Q:l_}
  (hl:typeLookup dI! "__getitem__"=pure (some eF_))(hs:CL f8)
  (h:wpAny o_ A (eval value env) (λo al=>wpAny o_ A (eval f8 env) (λi ao=>ao.TypeIs o T/\wpAny o_ A (getItem o i) Q E ao) E al) E s):
  wpAny o_ A (eval (.Subscript value f8 pos) env) Q E s:=by
 refine Subscript_ (KS h (λo al h₁=>KS h₁ (λi ao iq=>?_) λ_ _ x=>x) λ_ _ x=>x);obtain⟨hT,iq⟩:=iq;unfold subscriptTail;refine HM ?_;rw[getitemInPython_of_ne hT.not_modules];refine HM (QH hT hl ?_);have fin:wpAny o_ A (subscripted f8 false o i) (λr c8=>wpAny o_ A (letTemporaryGo value o r>>=λ_=>pure r) Q E c8) E ao:=by
  rw[hs o i];exact wpAny_operating (KS iq (λr c8 g7=>HM (wpAny_letTemporaryGo (HP g7))) λ_ _ x=>x)
 first
  |exact HP jf!
  |exact HM (HP jf!)
  |exact HM fin
structure M1(X:Cx)(o:Expr)(m:Str)(ay:Pos)(e:Expr)(ai:Pos):Prop where
 base:attributeBase o m X.env dw_=eval o X.env
 few:((jf_).all c3_&&(c4!).all c4_
  &&decide (([e]:List Expr).length+(dM_).length+eO!<30))=true
 line:nf_=true
 trees:backTo ai ul_=[dE_]
structure M2(X:Cx)(o:Expr)(m:Str)(ay:Pos)(e f:Expr)(ai:Pos):Prop where
 base:attributeBase o m X.env dw_=eval o X.env
 few:((backTo ai um_).all c3_&&(c4!).all c4_
  &&decide (([e,f]:List Expr).length+(dM_).length+eO!<30))=true
 line:nf_=true
 trees:backTo ai um_=[dE_,(false,eval f X.env)]
end L2
namespace Att
open PySem PySem.W PySem.Calls PyProof.Rows
def sC{P:Params}{h:Heap}:∀(ns:r!) (vs:g_),WellAll P h vs uo_->IntsAre vs ns:=by
 intro ns
 induction ns with
 |nil=>
  intro vs w;rw[NN]at w;cases w;exact .nil
 |cons n ns ih=>
  intro vs w;rw[IE]at w;cases w with
  |cons a b=>
   cases a;exact .cons _ _ (ih _ b)
def b2a{l:OpenLaw}{n:Nat}(hn:jg!){P:Params}{h:Heap}{args:List WData}
  (uz:l.row.toRowW.claim.pre args=true)(wg:WellAll P h wj args):
  ∃a vs ns,wj=[Value.ref a]/\args=[WData.list uo_]/\h.get? a=some {cls:=.type "list",data:=.seq cm!}/\IntsAre vs ns/\cS!<=n:=by
 have VQ:WShape.hasAll [] args [.list .int]=true:=(ur!).1;have hc:l.pre.holds [] {args:=args}=true:=(ur!).2;obtain⟨d,r,rfl,J,h2⟩:=hasAllW_cons VQ;obtain rfl:=hasAllW_nil h2;obtain⟨xs,rfl,h3⟩:=hasW_list J;obtain⟨ns,rfl⟩:=items_int h3;have av:cS!<=n:=by
  unfold OpenLaw.pre at hc;have h4:(WTm.not (.lt (.lit (.int (n:Int))) (.len (.arg 0)))).holds [] {args:=[.list jg_]}=true:=by
   have h4:=(holds_andW hc).1;rw[hn]at h4;exact h4
  have h5:=condW_of h4 (w_not (w_lt w_lit (w_len_list (w_arg rfl))));rw[IP]at h5;refine Nat.le_of_not_lt λq=>?_;have q':(n:Int)<((cS!:Nat):Int):=by omega
  first
   |(rw[IY q']at h5;exact absurd h5 c!)
   |(simp at h5;omega)
 cases wg with
 |cons w1 w2=>
  cases w2;cases w1 with
  |list ho gn=>exact⟨_,_,ns,rfl,rfl,ho,sC ns _ gn,av⟩
def b2j(l:OpenLaw)(args:List WData):l.row.toRowW.claim.post args eP_ args=true:=
 postW_of (r:=l.row.toRowW) (X:=(true==true))
  (show WShape.has [] eP_ .bool=true by first|rfl|decide|simp[WShape.has,WShape.arms,WShape.armsAll])
  (show(WTm.eq .res (.lit eP_)).value [] {args:=args,res:=some eP_,after:=args}=some (.bool (true==true))from w_eq_bool (w_res rfl) w_lit) rfl
def a5o{l:OpenLaw}{n:Nat}{XP:nm!}{YP:nm_}{d:DefRec}
  (hn:jg!)(rq:nn!)
  (call:∀(w:yO!) (s₀ al:z6!) (mg mb:x!) (fa:xz!) (o:Obj) (pm cd bq:xT!) (a:xz!) (vs:g_) (ns:r!),
   Ground q wk [] XP w s₀ mg mb al.heap->YP w al.heap->
   al.heap.get? fa=some o->o.data=.func (docDef d.name d.params d.body d.scope pm cd bq)->al.heap.CodeRec cd d.name->mg d.name=some eQ!->
   al.heap.get? a=some {cls:=.type "list",data:=.seq cm!}->IntsAre vs ns->cS!<=n->al.gens=#[]->
   codeAny (model l.prog w) callerA no! no_ al):
  WalkO q wk XP YP l.row.toRowW d [] np!:=by
 intro w s₀ al mg mb G gq fa o pm cd bq dV kV ho hd bv hD jx hg args wj as uz hlay hrd wg hlo;obtain rfl:dV=.none:=Dflts.none hD rq;obtain rfl:kV=.none:=Dflts.noKw hD;obtain⟨a,vs,ns,rfl,rfl,wm,hints,av⟩:=b2a hn uz wg;refine enter_call (RN (call w s₀ al mg mb fa o pm cd bq a vs ns G gq ho (fd_plain hd) bv jx wm hints av hg) λr s' hq=>?_);obtain⟨rfl,h2,h3,h4⟩:=hq;exact⟨.inl ⟨np_,np_,[],rfl,cj_,np_,b2j l _,λ_=>⟨ji!,λ_ hm=>(nomatch hm)⟩⟩,h2,h3,h4⟩
section
variable{prog:z7!}{w:yO!}{A:x8!}{E:Value->Shared->Prop}{s:z6!}{K:Frag}
end
end Att
namespace L2
open PySem PySem.Spec PyProof.Rows
def wR:∀{vs:g_} {ns:r!},IntsAre vs ns->Ax bY_ vs
 |_,_,.nil=>.nil
 |_,_,.cons n t h=>.cons eQ_ (wR h)
def Yj(H:Hp):Prop:=∀b,H b=none\/∃o xs,H b=some (.frz o Q_)
def b8e{P:z7!}{w:yO!}{K:zY!}{mg mb:x!}{CX:Vk}{k:Nat}{a:xz!}{fd:FuncData}{x:Str}{sp:Sp}{al:z6!}{vs:g_}{ns:r!}
  (KX:K.In al.heap)(cg:al.heap.Ns mainGlobals mg)(hb:al.heap.Ns builtinsNs mb)(VR:∀x:Str,x≠"__name__"->mb x=bootBuiltins x)(VS:al.heap.NoLimit)(hg:al.gens=#[])
  (ha:al.heap.get? a=some {cls:=.type "list",data:=.seq cm!})(hi:IntsAre vs ns)(hl:sy_)(hr:nq!)
  (F:∀base:Heap,K.In base->base.Ns mainGlobals mg->Fk P w K mg base CX k fa fd [x] sp)(VT:∀(s:z6!) (u:xT!),BindsTo s fd ji_ [(x,u)])
  (jg:∀H:Hp,Yj H->Fh K H a bY_->sp bU_ H jj! λ_ _ _=>False)
  (r9:∀H e s',CX [] H al nq_ e s'->False):
  codeAny C! callerA no! no_ al:=by
 have rv:=wR hi;have VU:=hi.length;have zt:∀H:Hp,Yj H->Fh K H a bY_->Lr P w H al.heap->(∀b,H b≠none->b=a)->(H a≠none->K.lookup a=none)->
   codeAny C! callerA no! no_ al:=by
  intro H hO hS hok hA hK;have zu:∀{b:xz!} {o:Obj},al.heap.get? b=some o->H b=none->(gB!).get? b=some o:=λe n=>b8x e n;have rm:∀{b:xz!} {o:Obj} {es:br_} {ep:Nat},al.heap.get? b=some o->o.data=.dict es ep->H b=none:=λ{b o es ep} e d=>by
   cases q:H b with
   |none=>rfl
   |some u=>
    have e':b=a:=hA b cn_;subst e';rw[ha]at e;cases e;have d':Data.seq vs.toArray _=Data.dict es ep:=d;cases d'
  have u0:∀{b:xz!} {m:x!},al.heap.Ns b m->(gB!).Ns b m:=λ{b m} ⟨o,es,ep,e,d,r⟩=>⟨o,es,ep,zu e (rm e d),d,r⟩;have zw:K.In gB!:=λb o e=>zu (KX b o e) (by
   cases q:H b with
   |none=>rfl
   |some u=>
    have e':b=a:=hA b cn_;subst e';rw[hK cn_]at e;cases e)
  have hM:Mod K mg gB!:=⟨zw,u0 cg,⟨mb,u0 hb,VR⟩,let⟨mc,J,h2⟩:=VS;⟨mc,u0 J,h2⟩⟩;have e0:Qs P w K mg gB! callerA [] al H:=⟨rfl,hM,λb o e=>c2p e,OP (b3q _ _),trivial,λb hb=>absurd (show b∈th! from hb) b_,hok,.of_eq hg⟩;refine RN ((F _ zw (u0 cg)).run callerA [] al H nn_ bU_ bU_ _ _ hr e0 (VT al F!) (.cons rfl .nil) (jg H hO hS)) λr s' h=>?_;cases r with
  |error e=>exact(r9 H e s' h).elim
  |ok fl=>
   cases fl with
   |next=>exact False.elim h
   |brk=>exact False.elim h
   |cont=>exact False.elim h
   |ret u=>
    obtain⟨v,H',os,bare,un,VV,r',q⟩:=h;have q':v=.bl true:=q;subst q';obtain rfl:u=Value.bool true:=r';refine⟨rfl,OldK.of_keep λb o e=>?_,os,bare⟩;cases q:H b with
    |none=>exact un.keep b o e q (by intro z;exact absurd th_ b_) b_
    |some u=>
     obtain z|⟨ob,xs,z⟩:=hO b
     .rw[q]at z;cases z
     .have z2:=un.frzs b ob _ z;obtain⟨e1,_⟩:=hok b _ z;obtain⟨e2,_⟩:=VV b _ z2;rw[e]at e1;cases e1;exact e2
 cases hk:K.lookup a with
 |some o=>
  have e:=KX a o hk;rw[ha]at e;cases e;refine zt mD! (λ_=>.inl rfl) (.inr ⟨_,cm!,_,hk,rfl,rfl,rfl,by rw[HY,VU];exact hl,by simpa using rv⟩) (λb u z=>by have z':(none:Option HO)=some u:=z;cases z') (λb z=>absurd rfl z) λz=>absurd rfl z
 |none=>
  refine zt (λb=>if b=a then some (.frz {cls:=.type "list",data:=.seq cm!} (.lst bY_))else none) (λb=>?_) (.inl (.inr ⟨{cls:=.type "list",data:=.seq cm!},A!⟩)) (λb u z=>?_) (λb z=>?_) λ_=>hk
  .show"#2"
   .exact .inr ⟨_,_,IB hb⟩
   .exact .inl (IF hb)
  .show"#2"
   .have z':=(IB hb).symm.trans z;cases z';subst hb;exact⟨ha,uw!,vs,_,rv,ha⟩
   .have z':=(IF hb).symm.trans z;cases z'
  .show"#2"
   .exact hb
   .exact absurd (IF hb) z
end L2
namespace L2
open PySem PySem.Spec PyProof.Rows
def c0x{l:W.OpenLaw}{n k:Nat}{XP:nm!}{YP:nm_}{d:DefRec}{K:ux!}{CX:World->Vk}{sp:World->Sp}{x:Str}
  (hn:jg!)(g6:ni_)(rq:nn!)(hr:nq!)
  (hY:uy!)
  (F:∀(w:yO!) (mg:x!) (fa:xz!) (h:Heap),(bF!).In h->h.Ns mainGlobals mg->mg d.name=some eQ!->
   ∃fd:FuncData,uy_/\
    ∀base:Heap,(bF!).In base->base.Ns mainGlobals mg->Fk l.prog w bF! mg base (CX w) k fa fd [x] (sp w))
  (jg:∀(w:yO!) (H:Hp) (a:xz!) (ns:r!),cS!<=n->Yj H->Fh bF! H a bY_->sp w bU_ H jj! λ_ _ _=>False)
  (r9:∀(w:yO!) (H:Hp) (s:z6!) (e:xT!) (s':z6!),CX w [] H s nq_ e s'->False):
  W.WalkO q wk XP YP l.row.toRowW d [] np!:=by
 refine Att.a5o hn rq λw s₀ al mg mb fa o pm cd bq a vs ns G gq ho hd bv jx wm hints av hg=>?_;have KX:=hY w _ gq;obtain⟨fd,hb,hF⟩:=F w mg fa _ KX G.T.g jx;exact b8e KX G.T.g G.T.b G.T.builtins G.T.nolimit hg wm hints (JM av g6) hr hF hb (λH hO hS=>jg w H a ns av hO hS) λH e s'=>r9 w H al e s'
def b4l{l:W.OpenLaw}{n k:Nat}{XP:nm!}{YP:nm_}{d:DefRec}{K:ux!}{CX:Vk}{sp:W.Frag->Sp}{x:Str}
  (hn:jg!)(g6:ni_)(rq:nn!)(hr:nq!)
  (hY:uy!)
  (F:∀(w:yO!) (mg:x!) (fa:xz!) (h:Heap),(bF!).In h->h.Ns mainGlobals mg->mg d.name=some eQ!->
   ∃fd:FuncData,uy_/\
    ∀base:Heap,(bF!).In base->base.Ns mainGlobals mg->Fk l.prog w bF! mg base CX k fa fd [x] (sp bF!))
  (jg:∀(K:zY!) (H:Hp) (a:xz!) (ns:r!),cS!<=n->Yj H->Fh K H a bY_->sp K bU_ H jj! λ_ _ _=>False)
  (r9:∀(H:Hp) (s:z6!) (e:xT!) (s':z6!),CX [] H s nq_ e s'->False):
  W.WalkO q wk XP YP l.row.toRowW d [] np!:=
 c0x (K:=K) (CX:=λ_=>CX) (sp:=λw=>sp bF!) hn g6 rq hr hY F (λw H a ns J h2 h3=>jg bF! H a ns J h2 h3) λ_ H s e s'=>r9 H s e s'
end L2
namespace L2
open PySem PySem.Spec PyProof.Rows
def Fn(s:Stmt):Arguments:=match s with
 |.FunctionDef _ a _ _ _ _ _ _ _ _=>a
 |_=>{posonlyargs:=[],args:=[],vararg:=none,kwonlyargs:=[],kw_defaults:=[],kwarg:=none,defaults:=[]}
def Cp(s:Stmt):List Stmt:=match s with
 |.FunctionDef _ _ b _ _ _ _ _ _ _=>b
 |_=>[]
def Ae(s:Stmt):Scope:=match s with
 |.FunctionDef _ _ _ _ _ _ sc _ _ _=>sc
 |_=>{kind:=.function,names:=[],isGenerator:=false,isCoroutine:=false}
abbrev Pd:Vk:=λ_ _ _ _ _ _=>False
abbrev E0:XK:=λ_ _ _=>False
def uB{X:Cx}:Lq Pd X E0:=λ_ _ _ _ _ _ _ h=>h.elim
structure Xf(K:zY!)(x qual:Str)(st:Stmt)(f:xz!)(fd:FuncData):Prop where
 ex:∃(oc:xT!) (od:aG_) (kV bq pm:xT!) (an:aG_) (ah ct:xT!) (dt:bB_),
  fd=W.fnOf x qual jk! bs! bc! .none kV bq pm an ah ct/\K.lookup f=some ⟨oc,od,.func fd,dt⟩/\W.codeIn K ah qual=true
 kp:W.keepIn K af_=true
section
variable{P:z7!}{w:yO!}{K:zY!}{mg:Str->Option Value}{base:Heap}
def Xf.ok{x:Str}{st:Stmt}{f:xz!}{fd:FuncData}{ps:o!}{k:Nat}{sp:Sp}(F:uA_)(S:c5!)(len:tj_)
  (pj:∀(ah:xT!) (A:x8!) (outer:P_) (s:z6!) (H:Hp) (vs:m_) (Q:VK) (E:XK),Ak k (A.deeper (envOfC qual bc! s.heap.objs.size f ah))->sp vs H Q E->
   ∃t,Ox (Jz Pd P w K mg base N qual bc! f ah A outer s H E).nox bs! t/\t {nx:=λ_ H'=>Q .non H',rt:=Q} gi_ H):Fk P w K mg base Pd M_ f fd ps sp:=by
 show"!@";refine c5q lk bv S len λA outer s H vs Q E hr jg=>?_;obtain⟨t,h,q⟩:=pj ah A outer s H vs Q E hr jg;exact⟨t,h.nox,q⟩
def Xf.binds{x:Str}{st:Stmt}{f:xz!}{fd:FuncData}{ps:o!}(F:uA_)
  (h:uB!):Ex K fd ps []:=by
 show"!@";exact .all (h kV bq pm an ah ct)
def nL{x:Str}{st:Stmt}{f:xz!}{od an:aG_}{dt:bB_}{kV:xT!}(l:uC_)
  (c:iV!)(k:gC_):Xf K x qual st f ns_:=⟨⟨oc,od,kV,bq,pm,an,ah,ct,dt,rfl,l,c⟩,k⟩
end
def b1w{n:Nat}(h:n<=1000):n<sizeLine:=KM h c!
def kW{A B:Prop}(h:B):if false=true then A else B:=by rw[IF IV];exact h
def kD{A B:Prop}(h:A):if true=true then A else B:=by rw[A!];exact h
def Ba(H H':Hp):Prop:=∀b o,H b=some o->H' b=some o
def Ba.refl(H:Hp):Ba H H:=λ_ _ h=>h
def Ba.trans{H H1 H2:Hp}(a:Ba H H1)(b:Ba H1 H2):Ba H H2:=λc o h=>b c o (a c o h)
def Ba.free{H H':Hp}(e:eS!){l:xz!}(h:H' l=nt!):H l=nt!:=by
 cases q:H l with
 |none=>rfl
 |some o=>
  rw[e l o q]at h;cases h
def Ba.seq{K:zY!}{H H':Hp}{a:xz!}{xs:m_}(e:eS!)(h:Fh K H a xs):Fh K H' a xs:=by
 rcases h with(h|⟨o,h⟩)|h
 .exact uE_
 .exact uF!
 .exact .inr h
end L2
namespace L2
open PySem PySem.Spec PyProof.Rows
def Inv.track{X:Cx}{Y:k_}{Z:St}{H:Hp}{s:z6!}{D:xz!}{ys:m_}{us:g_}{n:Nat}(I:d!)
  (hD:s.heap.get? D=some {cls:=.type "list",data:=.seq us.toArray n})(r:Ax ys us)(hz:i9!)(hn:H D=none)(hs:dt!<=D)(hL:D≠X.env.locals)
  (hc:∀x c,X.env.cells.lookup x=some c->c≠D)(hp:∀p∈X.pn++Y,p.1≠D):Inv X Y Z (upd H D bb!) s:=by
 have ne:∀b u,H b=some u->b≠D:=λb u e=>cC e hn;refine I.step (g':=s.gens) (d':=s.drawn) (t':=s.toks) (h':=s.heap) (ch:=[D]) h5_ (λb o _ _ _ e _=>e) (λb o _ _ _ e _=>uH!) (λb o hc e n=>?_) (λb o _ e=>⟨o,e⟩)
  (λb xs e=>by rw[nu_];exact e) (λb o u e=>by rw[nu_];exact e) (λb ps e=>⟨#[],by rw[nu_,e];simp⟩) nv! qL_ I.bare
 .have e:b=D:=by simpa using hb
  subst e;exact⟨.inr hs,hL,hc,hp⟩
 .rw[nv_];exact n
 .by_cases hb:b=D
  .show"!s";exact⟨hz,us,n,r,hD⟩
  .rw[aY hb]at e;exact(lC!).stay nw! (λc q=>by rw[aY (ne c _ q)];exact q) λc xs q=>by rw[aY (ne c _ q)];exact q
nonrec def closOf(cells:bc_):List uK!->List eS_->List eS_
 |[],acc=>acc
 |(n,k)::r,acc=>if k==.free then closOf cells r ((n,(cells.lookup n).getD 0)::acc)else closOf cells r acc
structure Yl(X:Cx)(scope:Scope)(cl:bc_):Prop where
 eq:closureFor scope X.env=pure cl
 sub:∀x c,cl.lookup x=some c->X.env.cells.lookup x=some c
 all:∀x,scope.names.lookup x=some .free->∃c,cl.lookup x=some c
def rB{env:Env}:∀(names:eT!) (acc:bc_),(∀p∈names,p.2=.free->∃c,env.cells.lookup p.1=some c)->
  (forIn names acc λx r=>(match x with|(name,kind)=>if(kind==gD!)=true then(do let a <-cellOf env name;pure uK_)else pure jk_:Sem uL_))=(pure (closOf env.cells names acc):Sem (List eS_))
 |[],acc,_=>rfl
 |(n,k)::r,acc,h=>by
  rw[MO];cases hk:(k==gD!)with
  |true=>
   obtain⟨c,hc⟩:=h (n,k) HX uM_;have b7:env.cells.lookup n=some c:=hc;have e:cellOf env n=pure c:=by unfold cellOf;rw[b7]
   have ih:=rB r ((n,c)::acc) λp hp=>h p jl!;have e2:closOf env.cells ((n,k)::r) acc=closOf env.cells r ((n,c)::acc):=by
    show uN!;rw[a5!,b7];rfl
   rw[e2,<-ih];simp only[hk,KA,e];rfl
  |false=>
   have ih:=rB r acc λp hp=>h p jl!;have e2:closOf env.cells ((n,k)::r) acc=closOf env.cells r acc:=by
    show uN!;rw[IF (by rw[hk];exact IV)]
   rw[e2,<-ih];simp only[hk];rfl
def nQ(cells:bc_):∀(names:eT!) (acc:bc_),(∀p∈names,p.2=.free->∃c,cells.lookup p.1=some c)->(∀p∈acc,cells.lookup p.1=some p.2)->∀p∈closOf cells names acc,cells.lookup p.1=some p.2
 |[],_,_,h=>h
 |(n,k)::r,acc,hn,h=>by
  unfold closOf;split
  .rename_i hk;obtain⟨c,hc⟩:=hn (n,k) HX uM_;refine nQ cells r _ uO_ λp hp=>?_;obtain rfl|hp:=HV.mp hp
   .have b7:cells.lookup n=some c:=hc;rw[b7];rfl
   .exact h p hp
  .exact nQ cells r _ uO_ h
def nS(cells:bc_):∀(names:eT!) (acc:bc_) (x:Str),(∃c,(x,c)∈acc)->∃c,(x,c)∈closOf cells names acc
 |[],_,_,h=>h
 |(n,k)::r,acc,x,h=>by
  unfold closOf;split
  .exact nS cells r _ x (let⟨c,hc⟩:=h;⟨c,HS _ hc⟩)
  .exact nS cells r _ x h
def nR(cells:bc_):∀(names:eT!) (acc:bc_) (x:Str),(x,gD!)∈names->∃c,(x,c)∈closOf cells names acc
 |[],_,_,h=>nomatch h
 |(n,k)::r,acc,x,h=>by
  unfold closOf;obtain h|h:=HV.mp h
  .cases h;rw[IB c5_];exact nS cells r _ _ ⟨_,HX⟩
  .split
   .exact uQ_
   .exact uQ_
def mV{β:Type}:∀{l:List (Str×β)} {x:Str} {c:β},(x,c)∈l->∃d,l.lookup x=some d
 |[],_,_,h=>nomatch h
 |(n,k)::r,x,c,h=>by
  cases hx:(x==n)with
  |true=>exact⟨k,by simp[JY,hx]⟩
  |false=>
   obtain h|h:=HV.mp h
   .cases h;simp at hx
   .obtain⟨d,hd⟩:=mV h;exact⟨d,by simp[JY,hx,hd]⟩
def b1k{X:Cx}{scope:Scope}(h:∀p∈b1_,p.2=.free->∃c,X.env.cells.lookup p.1=some c):∃cl,Yl X scope cl:=by
 refine⟨closOf X.env.cells scope.names [],?_,ly_,λx e=>?_⟩
 .have e:=rB (env:=X.env) scope.names [] h;simp only[closureFor];rw[show(forIn scope.names ([]:List eS_) λx r=>(match x with|(name,kind)=>if(kind==NameKind.free)=true then(do let a <-cellOf X.env name;pure uK_)else pure jk_:Sem uL_))=pure (closOf X.env.cells scope.names [])from e];rfl
 .exact nQ X.env.cells scope.names [] h qI! (x,c) (MJ e)
 .obtain⟨c,hc⟩:=nR X.env.cells scope.names [] x (MJ e);exact mV hc
def Mx(X:Cx)(scope:Scope)(cl:bc_)(C:xz!)(N:o!)(ao:z6!)(bf:Hp)(fp:I_):Cx:=
 {X with N:=N,s₀:=ao,H₀:=bf,env:=compEnvC scope cl C X.env,outer:=X.stack,stack:=X.stack,ex:=fp,fn:=λ_=>false,pn:=[],xe:=λ_ _=>False}
def lU{env:Env}:∀{names:eT!} {x:Str},(∀y∈names,y.2≠.cell)->
  ((jl_).lookup x=some .cell\/
     (jl_).lookup x=some .free)->names.lookup x=some .free
 |[],_,_,h=>by simp at h
 |(n,k)::r,x,hc,h=>by
  have ih:=@lU env r x λy hy=>hc y dO_;have hk:k≠.cell:=hc (n,k) HX;rw[IE]at h;by_cases hf:nx!=true
  .simp only[hf,KA]at h;cases hx:x==n with
   |true=>
    simp only[JY,hx];simp only[JD,NZ]at hf;rw[hf.1.1]
   |false=>
    simp only[JY,hx]at h ⊢;exact ih h
  .simp only[hf]at h;cases hx:x==n with
   |true=>
    simp only[JB,JT,JY,hx]at h ⊢;obtain h|h:=h
    .cases h;exact absurd rfl hk
    .exact h
   |false=>
    show"#*";exact ih h
def lV{env:Env}:∀{names:eT!} {x:Str},names.lookup x=some .free->
  ((jl_).lookup x=some .cell\/
     (jl_).lookup x=some .free)
 |[],_,h=>by simp at h
 |(n,k)::r,x,h=>by
  have ih:=@lV env r x;rw[IE];by_cases hf:nx!=true
  .simp only[hf,KA];cases hx:x==n with
   |true=>exact .inl (by simp[JY,hx])
   |false=>
    simp only[JY,hx]at h ⊢;exact ih h
  .simp only[hf];cases hx:x==n with
   |true=>
    show"#*";exact .inr h
   |false=>
    show"#*";exact ih h
structure Do(X:Cx)(scope:Scope)(NF:o!)(ix:k!):Prop where
 len:NF.length=ix.length
 at_:∀(k:Nat) (x:Str),NF[k]?=some x->∃j,ix[k]?=some j/\X.N[j]?=some x/\scope.names.lookup x=some .free/\qz!
def Do.nil{X:Cx}:Do X scope [] []:=⟨rfl,λk x e=>by simp at e⟩
def Do.cons{X:Cx}{scope:Scope}{j:Nat}{ix:k!}(h:c6!)(J:uU!:=by rfl)(h2:scope.names.lookup x=some .free:=by rfl)
  (h3:X.env.kindOf x=some .cell\/X.env.kindOf x=some .free:=by first|exact Or.inl rfl|exact Or.inr rfl):Do X scope (x::NF) (j::ix):=
 ⟨by simp[h.len],λk y e=>by
  cases k with
  |zero=>simp at e;subst e;exact⟨j,rfl,J,h2,h3⟩
  |succ k=>simpa using h.at_ k y cI_⟩
def Ow(nl:Nat)(ix:k!)(Z:St):St:=List.replicate nl none++ix.map λj=>(Z[j]?).join
def c9j{X:Cx}{Y:k_}{Z:St}{H2:Hp}{s2:z6!}{scope:Scope}{cl:bc_}{fp:I_}
  (cj:c6_)(cf:c7!)(b8:ny_)(I2:nx_)(f2:ny!)(flt:uU_)(hC:J_<=C):
  (Mx X scope cl C N s2 H2 fp).Ok where
 mod:=I2.ok.mod
 kind:=cj
 glob:=I2.ok.glob
 blt:=I2.ok.blt
 above:=hC
 inj:=λx y c J h2=>I2.ok.inj x y c (b8.sub x c J) (b8.sub y c h2)
 has:=λx h=>b8.all x (lU cf h)
 cab:=λ_ _ h=>nomatch h
 hd:=I2.ok.hd
 frames:=I2.ok.frames
 stk:=.inl rfl
 exf:=λb hb=>⟨JF (IW jn! hC),λx c h=>(dz!).2.2.2.2.1 x c gE_⟩
 bs:=I2.bs
 bsz:=JM I2.ok.bsz I2.sz
 noex:=λb o e hb=>by
  obtain z|z:=(dz!).2.2.2.1
  .exact I2.ok.noex b o e z
  .exact absurd (IW cL! (JM I2.ok.bsz z)) dr_
 exfs:=λb hb hf=>by
  obtain⟨_,f1,f3,_⟩:=f2 b hb;obtain z|z:=HV.mp (I2.stkSub b hf)
  .exact f1 z
  .exact f3 z
 funs:=I2.stack
 frf:=I2.stkFree
def b8u{X:Cx}{Y:k_}{Z:St}{H2:Hp}{s2:z6!}{scope:Scope}{cl:bc_}{D:xz!}{oD:Obj}{NL:o!}{ix:k!}{fp:I_}{h₁:Heap}{t:Nat}{m:x!}
  (cj:c6_)(cf:c7!)(b8:ny_)(cap:c6!)(I2:nx_)(f2:ny!)(flt:uU_)
  (hC:J_<=C)(hD:J_<=D)(jj:D≠C)(old:∀b u,s2.heap.get? b=some u->h₁.get? b=some u)(hn:h₁.Ns C m)(v8:h₁.get? D=some oD)(v9:∀v,oD.data≠.cell v):
  Inv (Mx X scope cl C gF_ s2 H2 fp) (bF_++[(D,oD)]) nz! H2 {s2 with heap:=h₁,toks:=t}:=by
 refine⟨c9j cj cf b8 I2 f2 flt hC,rfl,I2.bare,Un.kept old,⟨m,hn,qH!⟩,λx c h=>?_,I2.hok.fresh hC,λx c h=>I2.freeC x c gE_,cL_,I2.hok.kept old,?_⟩
 .have zx:gF_[i]?=some x:=e1;unfold Ow at e2;by_cases hi:i<NL.length
  .rw[LA gk!,MB]at e2;rw[IB hi]at e2;cases e2
  .rw[eF!,JN,NA]at e2;rw[eF!]at zx;obtain⟨j,hj,hN,hf,hk⟩:=cap.at_ _ _ zx;rw[hj]at e2;have u4:(Z[j]?).join=some v:=JX e2;have e4:Z[j]?=some a2!:=by
    cases q:Z[j]? with
    |none=>rw[q]at u4;cases u4
    |some o=>rw[q]at u4;exact congrArg some u4
   obtain⟨m2,_,hl⟩:=I2.loc;have hv:Vu X.env.scope x:=hk.elim (λz=>.inr (.inl z)) λz=>.inr gG!;obtain⟨u,r,l⟩:=hl j x v hN e4 hv;refine⟨u,r,.inr ?_⟩;obtain⟨k,_⟩|⟨_,c,hc,z⟩:=l
   .obtain z|z:=hk
    .rw[z]at k;cases k
    .rw[z]at k;cases k
   .obtain⟨c',b7⟩:=b8.all x hf;have e5:=b8.sub x c' b7;rw[hc]at e5;cases e5;obtain⟨o,ho,hd⟩:=z;exact⟨lV hf,c,b7,⟨o,old _ _ ho,hd⟩⟩
 .obtain⟨v,o,ho,hd⟩:=I2.cell x c gE_;exact⟨v,o,old _ _ ho,hd⟩
 .have zy:∀b,b≠X.env.locals->b∉X.fs->b∉frs X.stack:=λb J h2 h3=>(HV.mp (I2.stkSub b h3)).elim J h2;have bx:p∈bF_++[(D,oD)]:=by simpa[Mx]using hp
  obtain bx|bx:=II.mp bx
  .obtain⟨e,n,ne,nf,d⟩:=I2.pin p bx;exact⟨old _ _ e,n,JF (IW cL! hC),zy _ ne nf,d⟩
  .have e:p=(D,oD):=by simpa using bx
   subst e;exact⟨v8,I2.hok.fresh hD,jj,zy _ (LO (IW I2.lt hD)) (I2.nofs hD),v9⟩
 .show(nz!).length=(gF_).length;unfold Ow;rw[JA,JA,IP,NA,cap.len]
def a1t{R:sC!}{E:l_}(I:Nat->Shared->Prop)
  (hE:∀e s',E e s'->notedBy o_ A env (λe s'=>R (.error e) s') e s')
  (turn:∀n s,I n s->wpAny o_ A (pyNext it) (λr al=>match r with
   |none=>R (.ok .next) al
   |some v=>wpAny o_ A (letOwnedTupleGo ur it v) (λ_ zz=>wpAny o_ A (assign ur env v) (λ_ ao=>
     wpAny o_ A (forIn db true λc r=>if r=true then do let ok <-isTrue c env (eval c env);pure u2_ else pure jk_) (λok c8=>
      if ok=true then wpAny o_ A (eval d6 env) (λx u5=>
       wpAny o_ A (call (.builtin "list.append") [acc,x]) (λ_ z6=>∃m,m<n/\I m z6) E u5) E c8
      else∃m,m<n/\I m c8) E ao) E zz) E al) E s)
  (n:Nat) (h:I n s):codeAny o_ A (.compLoop (.ListComp d6 [⟨ur,iter,db,0⟩] scope pos) 0 it acc env) R s:=by
 refine codeAny_loop rfl I (λn s hI=>?_) n h;refine wpAny_noted ?_;rw[compTurn_list];refine HM (RB (HM (KS (turn n s hI) (λr al h₁=>?_) hE)));cases r with
 |none=>exact HP h₁
 |some v=>
  refine HM (KS h₁ (λ_ zz VW=>?_) hE);refine HM (KS VW (λ_ ao iq=>HM (KS iq (λok c8 g7=>?_) hE)) hE);cases ok with
  |false=>exact HP ⟨rfl,g7⟩
  |true=>
   exact HM (HM (KS g7 (λx u5 jk=>HM (KS jk (λ_ z6 jy=>HP (HP ⟨rfl,jy⟩)) hE)) hE))
def Pc(X:Cx)(db:bk_)(t:TT):Prop:=
 ∀(Y:k_) (s:z6!) (Z:St) (H:Hp) (Q:du_),Inv X Y Z H s->t Z H Q->
  wpAny e! X.A (forIn db true λc r=>if r=true then do let ok <-isTrue c X.env (eval c X.env);pure u2_ else pure jk_) ib! X.xe s
def AY:TT:=λ_ H Q=>Q true H
def a3c{X:Cx}:Pc X [] AY:=λY s Z H Q I h=>wpAny_tests_nil ⟨H,I,h⟩
def a3b{X:Cx}{t:TT}(h:PT X c t):Pc X [c] t:=λY s Z H Q I hw=>wpAny_tests_one rf!
def Vj(af:It)(g:TG)(tt:TT)(te:TE)(Fin:cN!)(Z:St)(H:Hp):Prop:=∃W:Nat->Nat->List V->St->Hp->Prop,(∃m,W 0 m [] Z H)/\∀i m ys Z H,W i m ys Z H->ah!<=sizeLine/\
 ((af.stop i H/\Fin ys H)\/(af.go i H/\∀x H',af.yld i H x H'->g x Z H' λc9 H2=>tt c9 H2 λb H3=>if b=true then te c9 H3 λy H4=>∃m',m'<m/\W ab_ m' (ys++[y]) c9 H4 else∃m',m'<m/\W ab_ m' ys c9 H3))
abbrev Tj(us:g_)(n:Nat):Obj:={cls:=.type "list",data:=.seq us.toArray n}
def yK{X:Cx}{scope:Scope}{NL:o!}{ix:k!}{cl:bc_}{g:TG}{tt:TT}{te:TE}{E:l_}
  {Y:k_}{Z:St}{H2:Hp}{s2:z6!}{fp:I_}{tn:dx_}{af:It}{Fin:cN!}{RR:Value->Addr->Result->Shared->Prop}
  (cj:c6_)(cf:c7!)(b8:ny_)(cap:c6!)(calm:ay!)
  (hg:∀C ao bf fp,PG b2! tg g)(hi:∀C ao bf fp,Pc b2! db tt)(he:∀C ao bf fp,PE b2! d6 te)
  (I2:nx_)(T:Sh X.prog X.w X.K tg af fp it tn)(bj:tn 0 s2.heap)(f2:ny!)(hw:Vj af g tt te Fin nz! H2)
  (VX:∀(D C:xz!) (us:g_) (n:Nat) (ys:m_) (H':Hp) (s':z6!),Inv X Y Z H' s'->s'.heap.get? D=some (Tj us n)->Ax ys us->ah!<=sizeLine->H' D=none->J_<=D->J_<=C->D≠C->H' C=none->
   (∃m,s'.heap.Ns C m)->Fin ys H'->RR (.ref D) C (.ok .next) s'):
  wpAny e! X.A (newList []) (λacc c8=>wpAny e! X.A (newFunctionEnv scope X.env.globals cl [] X.env.qual none .none (some X.env)) (λz7 u5=>
   codeAny e! X.A (.compStart gI! 0 bS! acc {z7 with scope:=relabel scope X.env}) (RR acc z7.locals) u5) E c8) E s2:=by
 obtain⟨W,⟨m0,w0⟩,turn⟩:=hw;have flt:∀b∈fp,b<J_:=λb hb=>let⟨o,e,_⟩:=T.obj _ _ bj b hb;IS e;refine KY (wpAny_newFunctionEnv cf (by intro y hy;simp at hy) (λh₁ wp u6=>?_) cj);dsimp only at wp u6 ⊢;generalize wu:s2.heap.push {cls:=.type "list",dict:=none,data:=.seq (vd_).toArray}=G2 at wp u6 ⊢;have hC:gI_=J_+1:=by rw[<-wu,NM]
 have jj:J_≠gI_:=by rw[hC];exact JF (OL _)
 have z8:J_<=gI_:=by rw[hC];exact LX _
 have z9:∀b,b<J_->b≠gI_:=λb hb=>by rw[hC];exact JF (OA hb)
 have old:∀b o,s2.heap.get? b=some o->h₁.get? b=some o:=λb o e=>u6.extBut b o (z9 b cL!) (HU _ (wu▸HU _ e));have VY:h₁.get? J_=some (Tj [] 0):=u6.extBut _ _ jj (HU _ (wu▸IK _ rfl));have px:tn 0 h₁:=T.keep _ _ _ bj λb _ o e=>old b o e;have I1:=b8u (NL:=NL) (t:=s2.toks+(ve!).length) cj cf b8 cap I2 f2 flt z8 v_ jj old wp VY ve_;have mj:∀{H':Hp} {oD:Obj},f1!->∀b∈fp,Fx dP! (bF_++[(J_,oD)]) H' b:=λ{H' oD} hn b hb=>by
  obtain⟨_,f1,f3,f4,f5,f6⟩:=f2 b hb;refine⟨hn b hb,z9 b jn!,λz=>(HV.mp (I2.stkSub b z)).elim f1 f3,.inl hb,λx c h=>f5 x c gE_,cL_⟩;have bx:p∈bF_++[(J_,oD)]:=by simpa[Mx]using hp
  obtain bx|bx:=II.mp bx
  .exact f6 p bx
  .have e:p=(J_,oD):=by simpa using bx
   subst e;exact LO jn!
 have F':∀c8:Shared,c8={s2 with heap:=h₁,toks:=s2.toks+(ve!).length}->
   codeAny e! X.A (.compLoop gI! 0 bS! (.ref J_) (compEnvC scope cl G2.objs.size X.env)) (RR (.ref J_) gI_) c8:=by
  rintro c8 rfl;refine a1t (E:=vg_) (λk s'=>∃i ys us n ac H',Inv dP! (bF_++[jq_]) ac H' s'/\tn i s'.heap/\f1!/\Ax ys us/\W i k ys ac H')
   (λ_ _ z=>z.elim) ?_ m0 ⟨0,[],[],0,_,H2,I1,px,r0_,.nil,w0⟩
  rintro k s' ⟨i,ys,us,n,ac,H',I',σ,u7,rv,w'⟩;obtain⟨av,wv⟩:=turn i k ys ac H' w';obtain⟨stop,fin⟩|⟨go,step⟩:=wv
  .refine cX (T.done dP! rfl rfl rfl calm i _ s' ac H' _ I' (mj u7) σ stop) λr s4 ⟨hr,I4⟩=>?_;subst hr;have N':=I4.pin jq_ (by simp[Mx]);have IX:Inv X Y Z H' s4:=I2.call' (ch:=fp) I4.os I4.base I4.hok I4.bare λb hb=>by
    obtain⟨_,f1,f3,f4,f5,f6⟩:=f2 b hb;exact⟨f4,f1,f5,f6⟩
   obtain⟨mC,VZ,_⟩:=I4.loc;exact VX _ _ us n ys H' s4 IX N'.1 rv av N'.2.1 v_ z8 jj I4.free ⟨mC,VZ⟩ fin
  .refine cX (T.item dP! rfl rfl rfl calm i _ s' ac H' _ I' (mj u7) σ go) λr s4 ⟨u,hr,h4⟩=>?_;subst hr;refine cX h4 λ_ s5 ⟨x,H5,I5,r5,y5,ml,v5⟩=>?_;have v6:=I5.pinned (mj v5) r1!;refine cX (hg _ _ _ _ _ s5 ac H5 x u _ v6 r5 r1_) λ_ s6 ⟨km,H6,I6,q6⟩=>?_;refine cX (hi _ _ _ _ _ s6 km H6 _ I6 q6) λok s7 ⟨H7,I7,q7⟩=>?_;have P':∀{SQ:St} {H8:Hp} {s8:z6!},Inv dP! ((bF_++[jq_])++Qf fp s5.heap) SQ H8 s8->tn ab_ s8.heap/\∀b∈fp,H8 b=none:=λ{SQ H8 s8} I8=>by
    refine⟨T.keep _ _ _ ml λb hb o e=>(vi!).1,ci_⟩;obtain⟨o,e,d⟩:=T.obj _ _ ml b hb;exact(vi!).2.1
   cases ok with
   |false=>
    simp only[JB,JT]at q7 ⊢;obtain⟨m',hm,w7⟩:=q7;obtain⟨t7,n7⟩:=P' I7;exact⟨m',hm,i+1,ys,us,n,km,H7,iy_,t7,n7,rv,w7⟩
   |true=>
    simp only[KA]at q7 ⊢;refine cX (he _ _ _ _ _ s7 km H7 _ I7 q7) λyv s8 ⟨y,H8,I8,r8,m',hm,w8⟩=>?_;obtain⟨t8,n8⟩:=P' I8;have pD:=I8.pin jq_ (HZ _ (IT _ b_));have V8:aq_=ah!:=rv.length.symm;refine wpAny_list_append_plain (items:=co_) (hsz:=by simpa[V8]using av) ⟨n,pD.1⟩ λh9 V9 SS=>?_;obtain⟨n9,e9⟩:=V9;have WB:Inv dP! bF_ km H8 s8:=I8.pins_of λp hp=>I8.pin p (HZ _ (IT _ ix_));have I9:Inv dP! bF_ km H8 {s8 with heap:=h9,toks:=s8.toks}:=by
     refine WB.turned (it:=J_) (λb o hb e=>(SS.2 b hb).trans e) pD.2.1 jj (.inr v_) (λx c h=>?_) λp hp=>?_
     .obtain⟨v,o,ho,_⟩:=I2.cell x c gE_;exact JF hZ!
     .have bx:p∈X.pn++Y:=by simpa[Mx]using hp
      exact JF (IS (I2.pin p bx).1)
    have WC:h9.get? J_=some (Tj (us++[yv]) n9):=by
     rw[e9,List.push_toArray]
    refine⟨m',hm,i+1,ys++[y],us++[yv],n9,km,H8,I9.pins_of λp hp=>?_,T.keep _ _ _ t8 λb hb o e=>(SS.2 b (JF jn!)).trans e,n8,rv.append (.cons r8 .nil),w8⟩;obtain hp|hp:=II.mp hp
    .exact I9.pin p (HZ _ hp)
    .have e:p=(J_,Tj (us++[yv]) n9):=by simpa using hp
     subst e;exact⟨WC,pD.2.1,pD.2.2.1,pD.2.2.2.1,gK!⟩
 exact codeAny_compStart_list (F' _ rfl) (T.self _ 0 _ _ _ px (F' _ rfl))
def Yr(nl:Nat)(ix:k!)(wi:TI)(g:TG)(tt:TT)(te:TE):TE:=λZ H Q=>wi Z H λaf H1=>Vj af g tt te (λys H'=>∀p,H' p=none->Q cl! (upd H' p bb!)) (Ow nl ix Z) H1
def b0d{X:Cx}{scope:Scope}{NL:o!}{ix:k!}{wi:TI}{g:TG}{tt:TT}{te:TE}
  (cj:c6_)(cf:c7!)(jz:∀y∈b1_,y.2=.local->scope.names.lookup y.1=some .local)
  (gw:gK_)(cap:c6!)(calm:ay!)(ar:mf_)
  (hg:gL!)(hi:vn_)(he:vo!)
  (hs:cQ_:=by intro _;rfl):
  PE X gI! vo_:=by
 show"!F";show"!N"
 rw[eval_ListComp];refine wpAny_comprehension_free (use:=none) rfl hs b8.eq cj jz vp!;obtain⟨it,fp,tn,af,H2,e,I2,T,bj,f2,hw⟩:=h2;subst e;refine yK (RR:=λacc C=>compPost e! X.A X.xe none aD! acc C) cj cf b8 cap calm (hg cl) (hi cl) (he cl) I2 T bj f2 hw λD C us n ys H' s' I' eD rv av nD hD hC jj nC ⟨m,hn⟩ fin=>?_;refine⟨m,hn,λh' cm=>?_⟩;have ez:∀b,b<J_->b≠C/\b≠D:=λb hb=>vr!;have pz:∀x c,X.env.cells.lookup x=some c->c<J_:=λx c h=>let⟨_,_,ho,_⟩:=I2.cell x c h;IS ho;have se:∀p∈X.pn++Y,p.1<J_:=λp hp=>IS (I2.pin p hp).1;have IC:Inv X Y Z H' {s' with heap:=h',toks:=s'.toks}:=I'.turned (it:=C) vs! nC (JE (gL_).1) vt! vu! λp hp=>(js_).1;have ID:=IC.track (D:=D) (us:=us) (n:=n) ((cm.2 D jj).trans eD) rv av nD (JM I2.sz hD) (JE (gL_).2) vu_ λp hp=>(js_).2;exact⟨.ref D,_,ID,rfl,fin D nD⟩
end L2
namespace DL
open PySem PySem.Spec PyProof.Rows L2
abbrev St:=L2.St
inductive D where
 |non|bl (b:Bool)|int (i:Int)|str (x:Str)|tup (xs:b!)|lst (xs:b!)|fn (a:xz!)|dk (h1:nH_)
mutual
noncomputable def Aq(K:zY!)(H:Hp):D->V->Prop
 |.non,v=>v=V.non
 |.bl b,v=>v=V.bl b
 |.int i,v=>v=V.int i
 |.str x,v=>v=V.str x
 |.tup xs,v=>∃a vs,v=V.ref a/\Fy K H a vs/\Al K H xs vs
 |.lst xs,v=>∃a vs,v=V.ref a/\Fh K H a vs/\Al K H xs vs
 |.fn a,v=>v=V.ref a
 |.dk h1,v=>∃a,v=V.ref a/\Rd H a dC_
noncomputable def Al(K:zY!)(H:Hp):List D->List V->Prop
 |[],vs=>vs=[]
 |d::ds,vs=>∃v r,vs=v::r/\Aq K H d v/\Al K H ds r
end
mutual
noncomputable def Dy:D->Bool
 |.lst _=>false
 |.dk _=>false
 |.tup xs=>Ff xs
 |_=>true
noncomputable def Ff:List D->Bool
 |[]=>true
 |d::ds=>Dy d&&Ff ds
end
mutual
noncomputable def Gx:D->Nat
 |.lst xs=>Dm xs+1
 |.tup xs=>Dm xs+1
 |_=>0
noncomputable def Dm:List D->Nat
 |[]=>0
 |d::ds=>max (Gx d) (Dm ds)
end
section
variable{K:zY!}{H H':Hp}
mutual
theorem Aq.map(ht:jt!)(hl:vv!)(hd:vv_):∀(d:D) (v:V),Aq K H d v->Aq K H' d v
 |.non,_,h=>h
 |.bl _,_,h=>h
 |.int _,_,h=>h
 |.str _,_,h=>h
 |.tup xs,_,h=>by
  show"!P";exact⟨a,vs,e,ht a vs q,vw_⟩
 |.lst xs,_,h=>by
  show"!P";exact⟨a,vs,e,hl a vs q,vw_⟩
 |.fn _,_,h=>h
 |.dk h1,_,h=>by
  unfold Aq at h ⊢;obtain⟨a,e,q⟩:=h;exact⟨a,e,hd a h1 q⟩
theorem Al.map(ht:jt!)(hl:vv!)(hd:vv_):∀(ds:b!) (vs:m_),Al K H ds vs->Al K H' ds vs
 |[],_,h=>h
 |d::ds,_,h=>by
  unfold Al at h ⊢;obtain⟨v,r,e,q,t⟩:=h;exact⟨v,r,e,Aq.map ht hl hd d v q,Al.map ht hl hd ds r t⟩
end
mutual
theorem Aq.mapT(ht:jt!):∀(d:D) (v:V),Dy d=true->Aq K H d v->Aq K H' d v
 |.non,_,_,h=>h
 |.bl _,_,_,h=>h
 |.int _,_,_,h=>h
 |.str _,_,_,h=>h
 |.tup xs,_,n,h=>by
  unfold Dy at n;show"!P";exact⟨a,vs,e,ht a vs q,Al.mapT ht xs vs n r⟩
 |.lst xs,_,n,_=>by
  unfold Dy at n;cases n
 |.fn _,_,_,h=>h
 |.dk _,_,n,_=>by
  unfold Dy at n;cases n
theorem Al.mapT(ht:jt!):∀(ds:b!) (vs:m_),Ff ds=true->Al K H ds vs->Al K H' ds vs
 |[],_,_,h=>h
 |d::ds,_,n,h=>by
  unfold Ff at n;rw[JD]at n;unfold Al at h ⊢;obtain⟨v,r,e,q,t⟩:=h;exact⟨v,r,e,Aq.mapT ht d v n.1 q,Al.mapT ht ds r n.2 t⟩
end
def bT(e:eS!){a:xz!}(h:Fy K H a xs):Fy K H' a xs:=by
 rcases h with(h|⟨o,h⟩)|h
 .exact uE_
 .exact uF!
 .exact .inr h
def a9m(e:eS!){a:xz!}{o:HO}(h:Rd H a o):Rd H' a o:=by
 obtain h|⟨u,h⟩:=h
 .exact .inl (e _ _ h)
 .exact .inr ⟨u,e _ _ h⟩
def Aq.mono(e:eS!)(h:gM!):Aq K H' d v:=Aq.map vx_ vy! vy_ d v h
def Al.mono(e:eS!)(h:cp!):Al K H' ds vs:=Al.map vx_ vy! vy_ ds vs h
def Aq.non:Aq K H .non V.non:=by unfold Aq;rfl
def Aq.bl{b:Bool}:Aq K H bl! (V.bl b):=by unfold Aq;rfl
def Aq.int{i:Int}:Aq K H ak_ (V.int i):=by unfold Aq;rfl
def Aq.str:Aq K H by_ (V.str x):=by unfold Aq;rfl
def Aq.fn{a:xz!}:Aq K H cp_ gM_:=by unfold Aq;rfl
def Aq.tup{a:xz!}(h:Fy K H a vs)(r:cp!):Aq K H c7_ gM_:=by unfold Aq;exact vz_
def Aq.lst{a:xz!}(h:Fh K H a vs)(r:cp!):Aq K H cq! gM_:=by unfold Aq;exact vz_
def Al.nil:Al K H [] []:=by unfold Al;rfl
def Al.cons(h:gM!)(t:cp!):Al K H dP_ (v::vs):=by unfold Al;exact⟨v,vs,rfl,h,t⟩
def aI:∀{ds:b!} {vs:m_},Al K H ds vs->f_=a4_
 |[],vs,h=>by unfold Al at h;subst h;rfl
 |d::ds,vs,h=>by
  unfold Al at h;obtain⟨v,r,e,_,t⟩:=h;rw[e,IH,IH,aI t]
def gH:∀{ds:b!} {vs:m_} {i:Nat} {d:D},Al K H ds vs->ds[i]?=some d->∃v,vs[i]?=some v/\Aq K H d v
 |[],_,_,_,_,e=>by simp at e
 |c::ds,vs,i,d,h,e=>by
  unfold Al at h;obtain⟨v,r,e1,q,t⟩:=h;subst e1;cases i with
  |zero=>simp at e;subst e;exact⟨v,rfl,q⟩
  |succ i=>
   obtain⟨u,J,h2⟩:=gH (i:=i) (d:=d) t cI_;exact qk!
def cU:∀{ds es:b!} {vs ws:m_},Al K H ds vs->Al K H es ws->Al K H (ds++es) (vs++ws)
 |[],_,_,_,h,k=>by unfold Al at h;subst h;exact k
 |c::ds,_,vs,_,h,k=>by
  show"!K";exact Al.cons q (cU t k)
def qC:∀{ds:b!} {vs:m_} (n:Nat),Al K H ds vs->Al K H (ds.take n) (vs.take n)
 |_,_,0,_=>Al.nil
 |[],_,n+1,h=>by unfold Al at h;subst h;exact Al.nil
 |c::ds,vs,n+1,h=>by
  show"!K";exact Al.cons q (qC n t)
def qD:∀{ds:b!} {vs:m_} (n:Nat),Al K H ds vs->Al K H nI_ (vs.drop n)
 |_,_,0,h=>h
 |[],_,n+1,h=>by unfold Al at h;subst h;exact Al.nil
 |c::ds,vs,n+1,h=>by
  show"!K";exact qD n t
def tS(hd:gM!):∀{ds:b!} {vs:m_} (n:Nat),Al K H ds vs->Al K H (ds.set n d) (vs.set n v)
 |[],_,_,h=>by unfold Al at h;subst h;exact Al.nil
 |c::ds,vs,n,h=>by
  unfold Al at h;obtain⟨u,r,e1,q,t⟩:=h;subst e1;cases n with
  |zero=>exact Al.cons hd t
  |succ n=>exact Al.cons q (tS hd n t)
def cG(h:Al K H [] vs):vs=[]:=by unfold Al at h;exact h
def bF(h:Al K H dP_ vs):∃v r,vs=v::r/\Aq K H d v/\Al K H ds r:=by unfold Al at h;exact h
def bN(h:Aq K H c7_ v):∃a vs,v=V.ref a/\Fy K H a vs/\Al K H ds vs:=by unfold Aq at h;exact h
def bO(h:Aq K H cq! v):∃a vs,v=V.ref a/\Fh K H a vs/\Al K H ds vs:=by unfold Aq at h;exact h
def aZ{i:Int}(h:Aq K H ak_ v):v=V.int i:=by unfold Aq at h;exact h
def cS{i:Bool}(h:Aq K H (.bl i) v):v=V.bl i:=by unfold Aq at h;exact h
def bW(h:Aq K H jt_ v):v=V.str i:=by unfold Aq at h;exact h
def dR(h:Aq K H .non v):v=V.non:=by unfold Aq at h;exact h
def fM{a:xz!}(h:Aq K H cp_ v):v=V.ref a:=by unfold Aq at h;exact h
def c6k{h1:nH_}(h:Aq K H (.dk h1) v):∃a,v=V.ref a/\Rd H a dC_:=by unfold Aq at h;exact h
def iH{o:HO}(h:cq_):Ba H eW_:=λb u e=>by rw[aY (cC e h)];exact e
def fH(h:cq_)(r:cp!):Aq K (upd H p (.tup vs)) c7_ nJ!:=Aq.tup (Fy.of bQ) vG!
def dM(h:cq_)(r:cp!):Aq K ju! cq! nJ!:=Aq.lst (Fh.of bQ) vG!
end
structure Cc(G H G' H':Hp):Prop where
 g:Ba G G'
 h:Ba H H'
 sub:Ba G' H'
 new:∀b,G' b≠none->G b≠none\/H b=none
def Cc.refl{G H:Hp}(s:E!):Cc G H G H:=⟨eX!,Ba.refl H,s,ju_⟩
def Cc.trans{G H G1 H1 G2 H2:Hp}(a:Cc G H G1 H1)(b:Cc G1 H1 G2 H2):Cc G H G2 H2:=
 ⟨a.g.trans b.g,a.h.trans b.h,b.sub,λc h=>(b.new c h).elim (λz=>a.new c z) λz=>.inr (a.h.free z)⟩
def Cc.laid{G H:Hp}{o:HO}(s:E!)(hp:cq_):Cc G H (upd G p o) eW_:=by
 refine⟨iH (s.free hp),iH hp,jv!,bd!⟩
 .by_cases hb:b=p
  .subst hb;rw[bQ]at e ⊢;exact e
  .rw[aY hb]at e ⊢;exact s b u e
 .by_cases hb:b=p
  .subst hb;exact .inr hp
  .rw[aY hb]at h;exact .inl h
abbrev Ad:=List (Option D)
structure OR(K:zY!)(own:k!)(G H:Hp)(Z:St)(ρ:Ad):Prop where
 sub:Ba G H
 len:gN!=ej!
 at_:∀(i:Nat) (d:D),ρ[i]?=some cr_->i∉own->∃v,Z[i]?=some a2!/\Aq K G d v
 own_:∀i∈own,∃p ds vs,ρ[i]?=some nJ_/\Z[i]?=some b2_/\H p=some cr!/\G p=none/\Al K G ds vs
 dis:∀i∈own,∀j∈own,i≠j->∀p q,Z[i]?=some b2_->Z[j]?=some (some (V.ref q))->p≠q
def OR.grow{K:zY!}{own:k!}{G H G' H':Hp}{Z:St}{ρ:Ad}(h:b3!)(x:jv_):OR K own G' H' Z ρ where
 sub:=x.sub
 len:=h.len
 at_:=λi d q n=>let⟨v,J,h2⟩:=h.at_ i d q n;vJ!
 own_:=λi hi=>by
  obtain⟨p,ds,vs,J,h2,h3,h4,h5⟩:=h.own_ i hi;refine⟨p,ds,vs,J,h2,x.h _ _ h3,?_,h5.mono x.g⟩;cases q:G' p with
  |none=>rfl
  |some o=>
   rcases x.new p cn_ with z|z
   .exact absurd h4 z
   .rw[h3]at z;cases z
 dis:=h.dis
def OR.set{K:zY!}{own:k!}{G H:Hp}{Z:St}{ρ:Ad}{i:Nat}(h:b3!)(hi:aP!)(r:cs!):OR K own G H ej_ bG_ where
 sub:=h.sub
 len:=by rw[MM,MM,h.len]
 at_:=λj c q n=>by
  by_cases hj:i=j
  .subst hj;by_cases hi:i<gN!
   .rw[JQ hi]at q;cases q;exact⟨v,by rw[JQ (by rw[<-h.len];exact hi)],r⟩
   .rw[KJ (by rw[MM];omega)]at q;cases q
  .rw[JG hj]at q;rw[JG hj];exact h.at_ j c q n
 own_:=λj hj=>by
  have ne:i≠j:=λe=>hi (e▸hj);rw[JG ne,JG ne];exact h.own_ j hj
 dis:=λj hj k hk hne p q e1 e2=>by
  have ne:i≠j:=λe=>hi (e▸hj);have ww:i≠k:=λe=>hi (e▸hk);rw[JG ne]at e1;rw[JG ww]at e2;exact h.dis j hj k hk hne p q e1 e2
def Jf(own:k!)(Z:St):List Addr:=own.filterMap λi=>match Z[i]? with|some (some (V.ref p))=>some p|_=>none
def mM{own:k!}{Z:St}(h:p∈Jf own Z):∃i∈own,Z[i]?=some b2_:=by
 obtain⟨i,hi,e⟩:=NS.mp h;refine⟨i,hi,?_⟩;show"!8"
 .rename_i q he;cases e;exact he
 .cases e
def a2r{own:k!}{Z:St}{i:Nat}(hi:dQ!)(h:vL_):p∈Jf own Z:=NS.mpr ⟨i,hi,by rw[h]⟩
def Kn(own:k!)(Z:St)(G H:Hp):Hp:=λb=>if b∈Jf own Z then H b else G b
def OR.full{K:zY!}{own:k!}{G H:Hp}{Z:St}{ρ:Ad}(h:b3!):OR K [] eX_ H Z ρ:=by
 have s1:Ba G eX_:=λb o e=>by
  unfold Kn;split
  .exact h.sub b o e
  .exact e
 have s2:Ba eX_ H:=λb o e=>by
  unfold Kn at e;show"!8"
  .exact e
  .exact h.sub b o e
 refine⟨s2,h.len,nK!,au!,au!⟩;by_cases hi:i∈own
 .obtain⟨p,ds,vs,J,h2,h3,h4,h5⟩:=h.own_ i hi;rw[J]at q;cases q;refine⟨_,h2,Aq.lst (Fh.of (xs:=vs) ?_) (h5.mono s1)⟩;unfold Kn;rw[IB (a2r hi h2)];exact h3
 .obtain⟨v,J,h2⟩:=h.at_ i d q hi;exact⟨v,J,h2.mono s1⟩
def Le(ρ ρ':Ad):Prop:=gN!=ρ'.length/\∀(i:Nat) (d:D),ρ[i]?=some cr_->ρ'[i]?=some cr_
def OR.le{K:zY!}{G H:Hp}{Z:St}{ρ ρ':Ad}(h:OR K [] G H Z ρ')(l:Le ρ ρ'):OR K [] G H Z ρ:=⟨h.sub,l.1.trans h.len,λi d q n=>h.at_ i d (l.2 i d q) n,au!,au!⟩
def Le.set{ρ ρ':Ad}{i:Nat}(h:Le ρ ρ')(hi:ρ[i]?=some none):Le ρ (ρ'.set i cr_):=by
 refine⟨by rw[MM];exact h.1,λj c q=>?_⟩;have:i≠j:=λe=>by subst e;rw[hi]at q;cases q
 rw[JG this];exact h.2 j c q
def Le.refl(ρ:Ad):Le ρ ρ:=⟨rfl,λ_ _ h=>h⟩
def Yg(nl:Nat)(ix:k!)(ρ:Ad):Ad:=List.replicate nl none++ix.map λj=>(ρ[j]?).join
def OR.cap{K:zY!}{own:k!}{G H:Hp}{Z:St}{ρ:Ad}(h:b3!)(nl:Nat)(ix:k!)(hx:jw!):OR K [] G H (Ow nl ix Z) nL_:=by
 unfold Ow Yg;refine⟨h.sub,Q!,nK!,au!,au!⟩;by_cases hi:i<nl
 .rw[LA gk!,MB,IB hi]at q;cases q
 .rw[eF!,JN,NA]at q;rw[eF!,JN,NA];cases e:ix[i - nl]? with
  |none=>rw[e]at q;cases q
  |some j=>
   rw[e]at q;have q':(ρ[j]?).join=some d:=JX q;have q2:ρ[j]?=some cr_:=by
    cases z:ρ[j]? with
    |none=>rw[z]at q';cases q'
    |some o=>rw[z]at q';exact congrArg some q'
   obtain⟨v,J,h2⟩:=h.at_ j d q2 (hx j (NH e));exact⟨v,by simp[J],h2⟩
inductive tD(K:zY!)(own:k!)(f:e_)(Z:St)(H:Hp)(Q:VK):Prop
 |mk (G:Hp) (ρ:Ad) (d:D) (o:b3!) (e:cs_) (k:∀v G' H',Cc G H G' H'->Aq K G' d v->Q v H'):tD K own f Z H Q
inductive FS(K:zY!)(own:k!)(f:am!)(Z:St)(H:Hp)(Q:cN!):Prop
 |mk (G:Hp) (ρ:Ad) (ds:b!) (o:b3!) (e:f ρ=some ds) (k:∀vs G' H',Cc G H G' H'->Al K G' ds vs->Q vs H'):FS K own f Z H Q
inductive Zj(K:zY!)(own:k!)(f:W_)(Z:St)(H:Hp)(Q:du_):Prop
 |mk (G:Hp) (ρ:Ad) (b:Bool) (o:b3!) (e:f ρ=some b) (k:∀G' H',Cc G H G' H'->Q b H'):Zj K own f Z H Q
structure DE(X:Cx)(own:k!)(e:Expr)(f:e_):Prop where
 ok:PE X e (tD X.K own f)
structure DA(X:Cx)(own:k!)(es:bk_)(f:am!):Prop where
 ok:PA X es (FS X.K own f)
structure DT(X:Cx)(own:k!)(e:Expr)(f:W_):Prop where
 ok:PT X e vQ!
structure DW(X:Cx)(own:k!)(e:Expr)(f:W_):Prop where
 ok:PW X e vQ!
section
variable{X:Cx}{own:List Nat}{e a b c:Expr}{es:List Expr}{pos:Pos}{f fa fb fc:Ad->Option D}{fs:Ad->Option (List D)}{ft fu:Ad->Option Bool}
def eI{t:TE}(h:id_)(hw:∀Z G H Q ρ d,OR X.K own G H Z ρ->f ρ=some d->(∀v G' H',Cc G H G' H'->Aq X.K G' d v->Q v H')->t Z H Q):DE X own e f:=vQ_
def c0a{t:TA}(h:gf!)(hw:∀Z G H Q ρ d,OR X.K own G H Z ρ->fs ρ=some d->(∀v G' H',Cc G H G' H'->Al X.K G' d v->Q v H')->t Z H Q):DA X own es fs:=⟨λp Y s Z H Q I ⟨G,ρ,d,er,e,k⟩=>h p Y s Z H Q I nM!⟩
def vL{t:TT}(h:PT X e t)(hw:vR_):DT X own e ft:=vQ_
def c5t{t:TT}(h:PW X e t)(hw:vR_):DW X own e ft:=⟨λwh Y s Z H Q I ⟨G,ρ,d,er,e,k⟩=>h wh Y s Z H Q I nM!⟩
def Np(f:e_):Ad->Option D:=λρ=>(ah_).bind λd=>if Dy d then some d else none
def b1h(h:DE X [] e f):DE X own e (Np f):=eI h.ok λZ G H Q ρ d er e k=>by
 obtain⟨d',e1,e2⟩:=HN.mp e;split at e2
 .rename_i hn;cases e2;refine⟨Kn own Z G H,ρ,d,er.full,e1,λv G' H' x r=>?_⟩;have WD:∀b,b∈Jf own Z->∃vs,G' b=some cr!:=λb hb=>by
   show"!I";refine⟨vs,x.g _ _ ?_⟩;unfold Kn;rw[IB hb];exact h3
  have hG:∀b,b∈Jf own Z->G b=none:=λb hb=>by
   show"!I";exact h4
  refine k v (λb=>if b∈Jf own Z then none else G' b) H' ⟨λb o z=>?_,x.h,λb o z=>?_,λb z=>?_⟩ (Aq.mapT (λa vs q=>?_) d v hn r)
  .have hb:b∉Jf own Z:=λhb=>by rw[hG b hb]at z;cases z
   show nO!=some o;rw[IF hb];refine x.g _ _ ?_;unfold Kn;rw[IF hb];exact z
  .have z':nO!=some o:=z;split at z'
   .cases z'
   .exact x.sub _ _ z'
  .have z':nO!≠none:=z;split at z'
   .exact absurd rfl z'
   .rename_i hb;obtain y|y:=x.new b z'
    .unfold Kn at y;rw[IF hb]at y;exact .inl y
    .exact .inr y
  .have ne:∀u,G' a=some u->(∀ws,u≠.lst ws)->(if a∈Jf own Z then none else G' a)=some u:=λu e1 hu=>by
    rw[IF (λhb=>by obtain⟨ws,e2⟩:=WD a hb;rw[e1]at e2;exact hu ws (JX e2))];exact e1
   rcases q with(q|⟨o,q⟩)|q
   .exact .inl (.inl (ne _ q λ_ z=>nomatch z))
   .exact .inl (.inr ⟨o,ne _ q λ_ z=>nomatch z⟩)
   .exact .inr q
 .cases e2
def Aa(i:Nat):Ad->Option D:=λρ=>(ρ[i]?).join
nonrec def fC(d:D):Ad->Option D:=λ_=>some d
def join_some{ρ:Ad}{i:Nat}(h:(ρ[i]?).join=some d):ρ[i]?=some cr_:=by
 cases z:ρ[i]? with
 |none=>rw[z]at h;cases h
 |some o=>rw[z]at h;exact congrArg some h
def aA(i:Nat){x:Str}(hi:aP!:=by decide)(hN:aa_:=by rfl)(hv:cf_:=by first|exact Or.inl rfl|exact Or.inr a_|exact Or.inr bd_)(hd:y_:=by decide)
  (bv:cg!:=by decide):DE X own cN_ (Aa i):=
 eI jx! λZ G H Q ρ d er e k=>let⟨v,J,h2⟩:=er.at_ i d (join_some e) hi;⟨v,J,k v G H gO! h2⟩
def b9z{t:TE}(h:id_)(ht:∀Z H Q,Q v H->t Z H Q)(r:∀H,Aq X.K H d v):DE X own e (fC d):=
 eI h λZ G H Q ρ d' er e' k=>by
  cases e';exact ht Z H Q (k v G H gO! (r G))
def aB{i:Int}{j:Nat}:DE X own q6! (fC ak_):=b9z c6x gO_ λ_=>Aq.int
def aR{j:Nat}:DE X own (.Constant jt_ j pos) (fC jt_):=b9z a6x gO_ λ_=>Aq.str
def fU{i:Bool}{j:Nat}:DE X own (.Constant (.bool i) j pos) (fC (.bl i)):=b9z d0v gO_ λ_=>Aq.bl
def dD{j:Nat}:DE X own q7! ct!:=b9z c6w gO_ λ_=>Aq.non
def c4g{x:Str}{i:Int}(hg:J!)(hm:X.mg x=some dp_)(hd:y_:=by decide):DE X own cN_ (fC ak_):=
 b9z (b0c (v:=V.int i) hg hm eQ_ hd) gO_ λ_=>Aq.int
nonrec def f2(g:aY_)(fa fb:e_):Ad->Option D:=λρ=>(eY!).bind λx=>(jx_).bind λy=>g x y
def Ic(K:zY!)(r:R2)(g:aY_):Prop:=∀{x y:V} {dx dy d:D} {G H:Hp} {Q:VK},Ba G H->Aq K G dx x->Aq K G dy y->g dx dy=some d->jy!->r x y H Q
def two{g:aY_}{r:R2}(hg:dQ_){Z:St}{G H:Hp}{Q:VK}{ρ:Ad}(er:OR X.K own G H Z ρ)(e:f2 g fa fb ρ=some d)(k:∀v G' H',Cc G H G' H'->Aq X.K G' d v->Q v H'):
  AN r (tD X.K own fa) (tD X.K own fb) Z H Q:=by
 unfold f2 at e;show"!<";obtain⟨y,e2,e⟩:=HN.mp e;exact⟨G,ρ,x,er,e1,λu G1 H1 s1 r1=>⟨G1,ρ,y,c8!,e2,λw G2 H2 s2 r2=>hg s2.sub gP! r2 e λv G' H' s3 r3=>k v G' H' (s1.trans gP_) r3⟩⟩
def aS{op:Operator}{r:R2}{g:aY_}(ho:mj_)(hg:dQ_)(ha:U!)(hb:ct_):DE X own mk! jy_:=
 eI vY! λZ G H Q ρ d er e k=>two hg er e k
def fF{op:CmpOp}{r:R2}{g:aY_}(ho:bT!)(hg:dQ_)(ha:U!)(hb:ct_)(hm:dv_):DE X own dw! jy_:=
 eI vY_ λZ G H Q ρ d er e k=>two hg er e k
def aM{r:R2}{g:aY_}(hr:gD_)(hg:dQ_)(ha:U!)(hb:ct_)(hs:Nu b):DE X own i5_ jy_:=
 eI vZ! λZ G H Q ρ d er e k=>two hg er e k
nonrec def fT(f:e_):Ad->Option Bool:=λρ=>(ah_).bind λd=>match d with|.bl b=>some b|_=>none
def kG{ρ:Ad}{b:Bool}(h:fT f ρ=some b):f ρ=some bl!:=by unfold fT at h;obtain⟨d,e,h⟩:=HN.mp h;cases d<;>first|(cases h;exact e)|cases h
def bM{op:CmpOp}{r:R2}{g:aY_}(ho:bT!)(hg:dQ_)(ha:U!)(hb:ct_)(hm:dv_):DT X own dw! (fT jy_):=
 vL vZ_ λZ G H Q ρ d er e k=>two (own:=own) (Q:=v0!) hg er (kG e) λv G' H' s' r'=>by
  cases cS r';exact v0_
def eJ(h:c8_)(he:ie!:=by intro _;rfl):DT X own e (fT f):=
 vL (a6u h.ok he) λZ G H Q ρ d er e k=>⟨G,ρ,.bl d,er,kG e,λv G' H' s' r'=>by
  cases cS r';exact v0_⟩
def Vl:D->Option Bool
 |.lst xs=>some (! dC!)
 |.tup xs=>some (! dC!)
 |.bl b=>some b
 |.int i=>some f4!
 |.non=>some false
 |_=>none
def rO{K:zY!}{H:Hp}{ds:b!}{vs:m_}(h:cp!):(!ds.isEmpty)=!vs.isEmpty:=by have:=aI h;cases ds<;>cases vs<;>simp_all
def a4z(h:c8_)(he:ie!:=by intro _;rfl):DT X own e (λρ=>(ah_).bind Vl):=
 vL (b5q h.ok he) λZ G H Q ρ b er e k=>by
  obtain⟨d,e1,e2⟩:=HN.mp e;refine⟨G,ρ,d,er,e1,λv G' H' s' r'=>⟨b,?_,nP!⟩⟩;cases d with
  |non=>cases dR r';cases e2;exact(rfl:false=false)
  |bl x=>cases cS r';cases e2;exact rfl
  |int i=>cases aZ r';cases e2;exact(rfl:f4!=f4!)
  |str x=>cases e2
  |fn a=>cases e2
  |dk a=>cases e2
  |tup xs=>
   obtain⟨a,vs,e3,q,r3⟩:=bN r';subst e3;cases e2;exact .inr (.inl ⟨vs,bT s'.sub q,rO r3⟩)
  |lst xs=>
   obtain⟨a,vs,e3,q,r3⟩:=bO r';subst e3;cases e2;exact .inl ⟨vs,s'.sub.seq q,rO r3⟩
def Co(ft fu:W_):Ad->Option Bool:=λρ=>(gQ_).bind λb=>if b then fu ρ else some false
def Lz(ft fu:W_):Ad->Option Bool:=λρ=>(gQ_).bind λb=>if b then some true else fu ρ
def Cr(ft:W_):Ad->Option Bool:=λρ=>(gQ_).map (!·)
variable{rest:List Expr}
def pO(h:gR_):DW X own lQ_ ft:=v2_
def qY(h:gR_):DW X own lR! ft:=v3!
def vJ(ha:gR_)(hb:DW X own el_ fu):DW X own em! (Co ft fu):=
 c5t v4! λZ G H Q ρ d er e k=>by
  obtain⟨x,e1,e⟩:=HN.mp e;refine nQ!;cases x with
  |true=>exact kD v4_
  |false=>cases e;exact kW (k G1 H1 s1)
def yF(ha:gR_)(hb:DW X own em_ fu):DW X own en! (Lz ft fu):=
 c5t v5! λZ G H Q ρ d er e k=>by
  obtain⟨x,e1,e⟩:=HN.mp e;refine nQ!;cases x with
  |false=>exact kW v4_
  |true=>cases e;exact kD (k G1 H1 s1)
def vK(h:DW X own e ft):DT X own e ft:=⟨h.ok.pt⟩
def fZ(h:gR_):DT X own en_ (Cr ft):=
 vL (b5r h.ok) λZ G H Q ρ d er e k=>by
  obtain⟨x,e1,rfl⟩:=IA.mp e;exact⟨G,ρ,x,er,e1,λG1 H1 s1=>k G1 H1 s1⟩
def Ck(fa fb:e_):Ad->Option D:=λρ=>(nR!).bind λb=>if b then fb ρ else some ab!
def Ep(fa fb:e_):Ad->Option D:=λρ=>(nR!).bind λb=>if b then some B! else fb ρ
def Dl(fa:e_):Ad->Option D:=λρ=>(nR!).map λb=>.bl (!b)
def gU{op:BoolOp}(h:U!):DE X own lS! fa:=v6_
def kK(ha:U!)(hb:DE X own el_ fb):DE X own em! (Ck fa fb):=
 eI v7! λZ G H Q ρ d er e k=>by
  obtain⟨x,e1,e⟩:=HN.mp e;refine nR_;cases cS r1;refine jz_;cases x with
  |true=>exact kD jA!
  |false=>cases e;exact kW v8_
def yJ(ha:U!)(hb:DE X own em_ fb):DE X own en! (Ep fa fb):=
 eI v9! λZ G H Q ρ d er e k=>by
  obtain⟨x,e1,e⟩:=HN.mp e;refine nR_;cases cS r1;refine jz_;cases x with
  |false=>exact kW jA!
  |true=>cases e;exact kD v8_
def c9f(ha:U!):DE X own en_ (Dl fa):=
 eI (b6j ha.ok) λZ G H Q ρ d er e k=>by
  obtain⟨x,e1,rfl⟩:=IA.mp e;refine nR_;cases cS r1;exact⟨x,rfl,wa_⟩
def Mw(ft:W_)(fa fb:e_):Ad->Option D:=λρ=>(gQ_).bind λb=>if b then fa ρ else fb ρ
def d2b(hc:DT X own c ft)(ha:U!)(hb:ct_):DE X own lT_ (Mw ft fa fb):=
 eI wb! λZ G H Q ρ d er e k=>by
  obtain⟨x,e1,e⟩:=HN.mp e;refine nQ!;cases x with
  |true=>exact kD jA!
  |false=>exact kW jA!
nonrec def f3(g h:aY_)(fa fb fc:e_):Ad->Option D:=λρ=>(eY!).bind λx=>(jx_).bind λy=>(g x y).bind λz=>match z with
 |.bl true=>(fc ρ).bind λw=>h y w
 |.bl false=>some ab!
 |_=>none
def Ag:Ad->Option aI_:=λ_=>some []
def Ac(f:e_)(fs:am!):Ad->Option aI_:=λρ=>(ah_).bind λd=>(eZ!).bind λds=>some dP_
def aK:DA X own [] Ag:=c0a fP λZ G H Q ρ d er e k=>by
 cases e;exact k [] G H gO! Al.nil
def aD(h:c8_)(hs:jA_)(hst:ag!:=by rfl):DA X own aD_ (Ac f fs):=
 c0a wb_ λZ G H Q ρ d er e' k=>by
  obtain⟨x,e1,e'⟩:=HN.mp e';obtain⟨xs,e2,e'⟩:=HN.mp e';cases e';exact⟨G,ρ,x,er,e1,λv G1 H1 s1 r1=>⟨G1,ρ,xs,c8!,e2,λvs G2 H2 s2 r2=>k _ G2 H2 c9! (Al.cons gP! r2)⟩⟩
def Au(fs:am!):Ad->Option D:=λρ=>(eZ!).bind λds=>if f_<=1000 then some c7_ else none
def Dr(fs:am!):Ad->Option D:=λρ=>(eZ!).bind λds=>if f_<=1000 then some cq! else none
def eY{n:Nat}(h:n<=1000):n<=sizeLine:=NV (b1w h)
def cP{x1:Nat}(h:jA_):DE X own qE! (Au fs):=
 eI (b6g h.ok) λZ G H Q ρ d er e k=>by
  show"!G"
  .show"!E";refine⟨G,ρ,ds,er,e1,λvs G1 H1 s1 r1=>⟨wc_,λp hp=>k _ _ _ wd! (fH wd_ r1)⟩⟩
  .cases e
def nO(h:jA_):DE X own mO_ (Dr fs):=
 eI nS_ λZ G H Q ρ d er e k=>by
  show"!G"
  .show"!E";refine⟨G,ρ,ds,er,e1,λvs G1 H1 s1 r1=>⟨wc_,λp hp=>k _ _ _ wd! (dM wd_ r1)⟩⟩
  .cases e
def Rl(K:zY!)(r:dA!)(g:ac_):Prop:=∀{vs:m_} {ds:b!} {d:D} {G H:Hp} {Q:VK},Ba G H->Al K G ds vs->g ds=some d->jy!->r vs H Q
nonrec def f1(g:ac_)(fs:am!):Ad->Option D:=λρ=>(eZ!).bind g
def bY{id:String}{x:Str}{r:dA!}{g:ac_}(hc:mB_)(hd:Rl X.K r g)(hg:J!)(hm:cO!)(hv:mW!)(ha:jC!)(hn:cO_:=by decide)
  (a8:y_:=by decide)(he:ag!:=by rfl)(ax:aF!:=by rfl):DE X own a9_ nV_:=
 eI we_ λZ G H Q ρ d er e' k=>by
  obtain⟨ds,e1,e'⟩:=HN.mp e';exact⟨G,ρ,ds,er,e1,λvs G1 H1 s1 r1=>hd s1.sub r1 e' λv G2 H2 s2 r2=>k v G2 H2 c9! r2⟩
def Xp(K:zY!)(n:Nat)(g:ac_):Sp:=λvs H Q _=>a4_=n/\∃G ds d,Ba G H/\Al K G ds vs/\g ds=some d/\∀v G' H',Cc G H G' H'->Aq K G' d v->Q v H'
def c4i{k:Nat}{ps:o!}{g:ac_}{x:Str}(F:Fk X.prog X.w X.K X.mg X.base Pd k ag fd ps wf!)(hr:bn_)(hg:J!)(hm:X.mg x=some be!)(hk:W.keepIn X.K be!=true)
  (hb:jC_)(ha:jC!)(hn:wf_:=by rfl)(av:wg!)
  (a8:y_:=by decide)(he:ag!:=by rfl)(ax:aF!:=by rfl):
  DE X own a9_ nV_:=
 eI (zQ F hr hg hm hk hb .nil uB ha.ok a8 he ax) λZ G H Q ρ d er e' k=>by
  obtain⟨ds,e1,e'⟩:=HN.mp e';refine⟨G,ρ,ds,er,e1,λvs G1 H1 s1 r1=>?_⟩;show Xp X.K ps.length g (vs++[]) H1 Q E0;rw[JH];exact⟨by rw[<-aI r1];exact av ρ ds e1,G1,ds,d,s1.sub,r1,e',v8!⟩
end
def aV{ρ:Ad}{ds:b!}(h:Ag ρ=some ds):f_=0:=by cases h;rfl
def aJ{f:e_}{fs:am!}{n:Nat}(hf:wg_):∀(ρ:Ad) (ds:b!),Ac f fs ρ=some ds->f_=n+1:=λρ ds e=>by
 show"!<";obtain⟨xs,e2,e⟩:=HN.mp e;cases e;rw[IH,hf ρ xs e2]
def nG{h:Heap}{its:I!}(p:PlainL h a its):∃n sl,h.get? a=some {cls:=.type "list",dict:=none,data:=.seq its n,slots:=sl}:=by obtain⟨⟨cls,dd,data,sl⟩,n,e,J,h2,h3⟩:=p;simp only at J h2 h3;subst J h2 h3;exact⟨n,sl,e⟩
section
variable{X:Cx}
def Yv(K:zY!):R2:=λx y H Q=>∃l b xs zs,x=.ref l/\y=.ref b/\Fh K H l xs/\Fh K H b zs/\i_+zs.length<=sizeLine/\∀p,H p=none->Q cl! (upd H p ue_)
def c2i:Gv X es! (Yv X.K):=by
 intro Y s Z H x y v u Q I rx ry h;obtain⟨l,b,xs,zs,rfl,rfl,hH,hB,hz,q⟩:=h;cases rx;cases ry;obtain⟨its,r,pl,z⟩:=I.list hH;obtain⟨gj,r2,WG,z2⟩:=I.list hB;obtain⟨n,sl,e⟩:=nG pl;obtain⟨n2,f7,e2⟩:=nG WG;have J:=aL_;have h2:=r2.length;refine concat_meets dN! ⟨_,e2,rfl⟩ PySem.noFill_list_add PySem.seq_list_add PySem.F.slot_list_add PySem.F.entry_list_add (PySem.F.args_list_add_2 _ _)
  (list_addW l b its.toArray gj.toArray n n2 none none sl f7 nX!) ⟨e,e2,?_⟩
 have ea:a1!++gj.toArray=(its++gj).toArray:=by simp
 rw[ea];exact⟨.ref _,_,I.lnew (t':=s.toks) (r.append r2) wh_,rfl,q _ I.fresh⟩
def Wl(K:zY!):R2:=λx y H Q=>∃a b ys,x=.ref a/\y=.ref b/\Fy K H a []/\Fy K H b ys/\Q dJ! H
def b6t:Gv X es! (Wl X.K):=by
 intro Y s Z H x y v u Q I rx ry h;obtain⟨a,b,ys,rfl,rfl,ha,hb,q⟩:=h;cases rx;cases ry;obtain⟨its,r1,p1,_⟩:=I.tuple ha;obtain⟨gj,r2,p2,_⟩:=I.tuple hb;obtain⟨⟨cls,dd,data,sl⟩,ho,hc,n,hd⟩:=id p1;obtain⟨⟨zr,ky,data2,f7⟩,jh,ii,n2,ji⟩:=id p2;simp only at hc hd ii ji;subst hc hd ii ji;have e0:its=[]:=r1.nil_iff.mpr rfl;exact concat_meets iX! iY! noFill_tuple_add seq_tuple_add QU QO (QK _ _)
  (tuple_addW0 a b its.toArray gj.toArray n n2 dd ky sl f7 (by simp[e0])) ⟨ho,jh,⟨.ref b,H,I,rfl,q⟩⟩
abbrev big:Nat:=100000
def cV{n:Nat}(h:n<=big):n<=sizeLine:=JM h wi!
def An:D->D->Option D
 |.int i,.int j=>some (.int (i+j))
 |.str x,.str y=>if cR_+cj!<=big then some (.str (x++y))else none
 |.tup xs,.tup ys=>if i_+ah!<=big then some (.tup ef_)else none
 |.lst xs,.lst ys=>if i_+ah!<=big then some (.lst ef_)else none
 |_,_=>none
def Rt(K:zY!):R2:=λx y H Q=>Rs (λi j=>.int (i+j)) x y H Q\/((∃i j,x=.str i/\y=.str j/\i.length+j.length<=sizeLine/\Q (.str (i++j)) H)\/(Yu K x y H Q\/(Wl K x y H Q\/Yv K x y H Q)))
def aN:Gv X es! (Rt X.K):=c7h.or (a7a.or (c2h.or (b6t.or c2i)))
def bE{K:zY!}:Ic K (Rt K) An:=by
 show"!1";unfold An at e;show"!8"
 .show"!Y";exact .inl ⟨_,_,rfl,rfl,dR_⟩
 .cases bW rx;cases bW ry;show"!8"
  .show"!E";exact .inr (.inl ⟨_,_,rfl,rfl,cV hl,wk!⟩)
  .cases e
 .show"!O";obtain⟨b,ws,rfl,qb,rb⟩:=bN ry;show"!8"
  .show"!E";have l1:=aI ra;have l2:=aI rb;by_cases hv:vs=[]
   .subst hv;refine .inr (.inr (.inr (.inl ⟨a,b,ws,rfl,rfl,jD!,nY!,k _ G H aJ! ?_⟩)));have:(_:b!)=[]:=QQ.mp l1;rw[this,KP];exact Aq.tup qb rb
   .refine .inr (.inr (.inl ⟨a,b,vs,ws,rfl,rfl,jD!,nY!,hv,by rw[<-l1,<-l2];exact cV hl,λhw=>?_,λhw p hp=>?_⟩))
    .subst hw;have:(_:b!)=[]:=QQ.mp l2;refine k _ G H aJ! ?_;rw[this,JH];exact Aq.tup qa ra
    .exact k _ _ _ jD_ (fH gS! (cU ra rb))
  .cases e
 .show"!z";obtain⟨b,ws,rfl,qb,rb⟩:=bO ry;show"!8"
  .show"!E";exact .inr (.inr (.inr (.inr ⟨a,b,vs,ws,rfl,rfl,sub.seq qa,sub.seq qb,by rw[<-aI ra,<-aI rb];exact cV hl,λp hp=>k _ _ _ jD_ (dM gS! (cU ra rb))⟩)))
  .cases e
 .cases e
def Ds(c:ml!)(g:jE_):D->D->Option D
 |.int i,.int j=>if c i j=true then some bm! else none
 |_,_=>none
def zX{K:zY!}{C:mi!}{c:ml!}{g:jE_}{gv:iz!}(hc:∀i j,c i j=true->C i j)(hg:wl_):Ic K (rI C gv) (Ds c g):=by
 show"!1";unfold Ds at e;show"!8"
 .cases aZ rx;cases aZ ry;show"!8"
  .rename_i h;cases e;exact⟨_,_,rfl,rfl,hc _ _ h,wm!⟩
  .cases e
 .cases e
def Bw(g:jE_):D->D->Option D
 |.int i,.int j=>some bm!
 |_,_=>none
def sH{K:zY!}{g:jE_}{gv:iz!}(hg:wl_):Ic K (Rs gv) (Bw g):=by
 show"!1";unfold Bw at e;show"!8"
 .show"!Y";exact⟨_,_,rfl,rfl,wm!⟩
 .cases e
def Cu:D->D->Option D:=Bw λi j=>.int (i - j)
def lN{K:zY!}:Ic K r9! Cu:=sH λ_ _ _=>Aq.int
def Ti(i j:Int):Bool:=(decide (-iA!<i)&&decide (i<2 ^ 64))||(decide (-iA!<j)&&decide (j<2 ^ 64))
def c7l{K:zY!}:Ic K ml_ (Ds Ti λi j=>.int (i*j)):=zX (λi j h=>by
 unfold Ti at h;simp only[Bool.or_eq_true,JD,JC]at h;exact h) λ_ _ _=>Aq.int
def c7m{K:zY!}:Ic K mn_ (Ds wm_ λi j=>.int (i%j)):=zX (λi j h=>by simpa using h) λ_ _ _=>Aq.int
def c2q{K:zY!}:Ic K mm! (Ds wn! λi j=>.int (i / j)):=zX (λi j h=>by
 simp only[JD,JC]at h;exact h) λ_ _ _=>Aq.int
def c7k{K:zY!}:Ic K mo_ (Ds wo! λi j=>.int mp!):=zX (λi j h=>by
 simp only[JD,JC]at h;exact⟨h.1.1,h.1.2,h.2⟩) λ_ _ _=>Aq.int
def d1d{K:zY!}:Ic K mq! (Bw λi j=>.bl mp_):=sH λ_ _ _=>Aq.bl
def d1f{K:zY!}:Ic K ms! (Bw λi j=>.bl mr_):=sH λ_ _ _=>Aq.bl
def d1g{K:zY!}:Ic K ms_ (Bw λi j=>.bl mt!):=sH λ_ _ _=>Aq.bl
def Qz(x y:Str):Bool:=!decide (y.cps.toList<x.cps.toList)
def b2q:Gv X mq_ (λx y H Q=>∃i j,x=.str i/\y=.str j/\Q wo_ H):=by intro Y s Z H x y v u Q I rx ry h;obtain⟨i,j,rfl,rfl,q⟩:=h;obtain⟨t,rfl⟩:=rx;obtain⟨t',rfl⟩:=ry;exact PySem.P.le_str (eE I q rfl)
def Cf:D->Bool
 |.non=>true
 |_=>false
def Bs:D->D->Option D
 |x,.non=>some (.bl (Cf x))
 |_,_=>none
def xD{K:zY!}{H:Hp}(r:Aq K H d x):decide (x=V.non)=Cf d:=by
 cases d with
 |non=>cases dR r;rfl
 |bl b=>cases cS r;rfl
 |int b=>cases aZ r;rfl
 |str b=>cases bW r;rfl
 |tup b=>obtain⟨a,vs,rfl,_⟩:=bN r;rfl
 |lst b=>obtain⟨a,vs,rfl,_⟩:=bO r;rfl
 |fn b=>cases fM r;rfl
 |dk b=>obtain⟨a,rfl,_⟩:=c6k r;rfl
def a7j{K:zY!}:Ic K sf_ Bs:=by
 show"!1";unfold Bs at e;show"!8"
 .show"#;"
 .cases e
def Ap:D->D->Option D
 |x,.non=>some (.bl (!Cf x))
 |_,_=>none
def oQ{K:zY!}:Ic K sg_ Ap:=by
 show"!1";unfold Ap at e;show"!8"
 .show"#;"
 .cases e
def Aj:D->D->Option D
 |.tup xs,.int i=>Cs xs i
 |.lst xs,.int i=>Cs xs i
 |.str x,.int i=>if cR_<=big then(Cs x.cps.toList i).map λc=>.str at! else none
 |_,_=>none
def nZ{K:zY!}{H:Hp}{i:Int}(r:cp!)(h:Cs ds i=some d):∃v,Cs vs i=some v/\Aq K H d v:=by unfold Cs at h ⊢;obtain⟨j,J,h2⟩:=HN.mp h;obtain⟨v,h3,h4⟩:=gH r h2;exact⟨v,HN.mpr ⟨j,by rw[<-aI r];exact J,h3⟩,h4⟩
def aL{K:zY!}:Ic K (ET K) Aj:=by
 show"!1";unfold Aj at e;show"!8"
 .show"!O";cases aZ ry;obtain⟨v,J,h2⟩:=nZ ra e;exact .inr (.inl ⟨a,vs,_,v,rfl,rfl,jD!,J,wp!⟩)
 .show"!z";cases aZ ry;obtain⟨v,J,h2⟩:=nZ ra e;exact .inl ⟨a,vs,_,v,rfl,rfl,sub.seq qa,J,wp!⟩
 .cases bW rx;cases aZ ry;show"!8"
  .rename_i hl;obtain⟨c,J,rfl⟩:=IA.mp e;exact .inr (.inr ⟨_,_,c,rfl,rfl,cV hl,J,wk!⟩)
  .cases e
 .cases e
def Dh{α:Type}(xs:O!)(lo hi:aW!):List α:=(xs.drop m5_).take m6!
def a2w{K:zY!}{H:Hp}(r:cp!)(lo hi:aW!):Al K H (Dh ds lo hi) (Tp vs lo hi):=by unfold Dh Tp;rw[aI r];exact qC _ (qD _ r)
end
section
variable{X:Cx}{own:List Nat}{e a b c:Expr}{es:List Expr}{pos p2:Pos}{f fa fb fc:Ad->Option D}{fs:Ad->Option (List D)}{ft fu:Ad->Option Bool}{ol oh:Ad->Option (Option Int)}
inductive AW(K:zY!)(own:k!)(o:wp_)(Z:St)(H:Hp)(Q:tz_):Prop
 |mk (G:Hp) (ρ:Ad) (i:aW!) (r:b3!) (e:o ρ=some i) (k:∀G' H',Cc G H G' H'->Q i H'):AW K own o Z H Q
def Aw:Ad->Option nZ!:=λ_=>some none
def Av(f:e_):Ad->Option nZ!:=λρ=>(ah_).bind λd=>match d with|.int i=>some (some i)|_=>none
def dW:PO X none (AW X.K own Aw):=λY s Z H Q I ⟨G,ρ,i,er,e,k⟩=>by
 cases e;exact c1w Y s Z H Q I (k G H gO!)
def dU(h:c8_):PO X ik! (AW X.K own (Av f)):=λY s Z H Q I ⟨G,ρ,i,er,e',k⟩=>by
 obtain⟨d,e1,e2⟩:=HN.mp e';refine c1v h.ok Y s Z H Q I ⟨G,ρ,d,er,e1,λv G' H' s' r'=>?_⟩;cases d<;>first
  |cases e2
  |skip
 cases aZ r';exact⟨_,rfl,nP!⟩
def Be:D->Option Int->Option Int->Option D
 |.tup xs,lo,hi=>if HT.sIx xs.length 0 lo=0/\HT.sIx xs.length xs.length hi=i_ then none else some (.tup (Dh xs lo hi))
 |.lst xs,lo,hi=>some (.lst (Dh xs lo hi))
 |_,_,_=>none
def Fd(f:e_)(ol oh:wp_):Ad->Option D:=λρ=>(ah_).bind λd=>(ol ρ).bind λl=>(oh ρ).bind λh=>Be d l h
def dH{lo hi:Option Expr}(ha:U!)(hl:PO X lo (AW X.K own ol))(hh:PO X hi (AW X.K own oh)):DE X own (.Subscript a m5! pos) (Fd fa ol oh):=
 eI (b6h (Zb.or c6f c1e) ha.ok hl hh) λZ G H Q ρ d er e k=>by
  show"!<";obtain⟨l,e2,e⟩:=HN.mp e;obtain⟨h,e3,e⟩:=HN.mp e;refine⟨G,ρ,x,er,e1,λv G1 H1 s1 r1=>⟨G1,ρ,l,c8!,e2,λG2 H2 s2=>⟨G2,ρ,h,er.grow c9!,e3,λG3 H3 s3=>?_⟩⟩⟩;have r3:Aq X.K G3 x v:=(gP!).mono s3.g;have s4:Cc G H G3 H3:=s1.trans gP_;have sub:=s4.sub;unfold Be at e;show"!8"
  .show"!8"
   .cases e
   .rename_i hw;cases e;obtain⟨p,vs,rfl,q,rr⟩:=bN r3;refine .inl ⟨p,vs,rfl,bT sub q,?_,λp hp=>k _ _ _ wr! (fH gS! (a2w rr l h))⟩;rw[<-aI rr];exact hw
  .cases e;obtain⟨p,vs,rfl,q,rr⟩:=bO r3;exact .inr ⟨p,vs,rfl,nZ_,λp hp=>k _ _ _ wr! (dM gS! (a2w rr l h))⟩
  .cases e
def FO:D->Value
 |.non=>.type "NoneType"
 |.bl _=>.type "bool"
 |.int _=>.type "int"
 |.str _=>.type "str"
 |.tup _=>.type "tuple"
 |.lst _=>.type "list"
 |.fn _=>.none
 |.dk _=>.none
def BR(K:zY!)(T:String):List V->Hp->VK->Prop:=λxs H Q=>∃x d b,xs=[x,.ty T]/\Aq K H d x/\W.kitOne K (FO d) dI!=some b/\(∀a,d≠.fn a)/\(∀a,d≠.dk a)/\Q bl! H
def c0k{T:String}:Ir X jH_ (BR X.K T):=by
 intro Y s Z H xs us Q I r h;obtain⟨x,d,b,rfl,rx,e,hf,wx,q⟩:=h;obtain⟨u,w',rfl,r1,r2⟩:=wS r;cases r2;have fin:∀tk,EP X Y Z Q lO! {s with toks:=tk}:=λtk=>⟨.bl b,H,I.tok tk,rfl,q⟩;cases d with
 |non=>cases dR rx;cases r1;exact SL W.kitx_none I.kIn True.intro e dS_ fin
 |bl y=>cases cS rx;cases r1;exact SL W.kitx_bool I.kIn True.intro e dS_ fin
 |int y=>cases aZ rx;obtain⟨t,rfl⟩:=r1;exact SL W.kitx_int I.kIn True.intro e dS_ fin
 |str y=>cases bW rx;obtain⟨t,rfl⟩:=r1;exact SL W.kitx_str I.kIn True.intro e dS_ fin
 |tup ys=>
  show"!O";cases r1;obtain⟨its,_,⟨o,J,h2,_⟩,_⟩:=I.tuple qa;exact SL W.kitx_tuple I.kIn n0! e dS_ fin
 |lst ys=>
  show"!z";cases r1;obtain⟨its,_,pl,_⟩:=I.list qa;obtain⟨o,n,J,h2,_⟩:=pl;exact SL W.kitx_list I.kIn n0! e dS_ fin
 |fn a=>exact absurd rfl (hf a)
 |dk a=>exact absurd rfl (wx a)
def Fq(T:String):D->Option Bool
 |.non=>some (T=="NoneType")
 |.bl _=>some (T=="bool"||T=="int")
 |.int _=>some (T=="int")
 |.str _=>some (T=="str")
 |.tup _=>some (T=="tuple")
 |.lst _=>some (T=="list")
 |.fn _=>none
 |.dk _=>none
structure Xe(K:zY!)(T:String):Prop where
 ok:∀d b,Fq T d=some b->W.kitOne K (FO d) dI!=some b
def a0r:W.kitOne [] jI! bH_=some ("int"=="NoneType"):=by decide+kernel
def a3y:W.kitOne [] bI! bH_=some ("int"=="bool"||"int"=="int"):=by decide+kernel
def a0v:W.kitOne [] bH_ bH_=some ("int"=="int"):=by decide+kernel
def a0p:W.kitOne [] bI_ bH_=some ("int"=="str"):=by decide+kernel
def a0n:W.kitOne [] be_ bH_=some ("int"=="tuple"):=by decide+kernel
def a0t:W.kitOne [] eN! bH_=some ("int"=="list"):=by decide+kernel
def c3j{K:zY!}:Xe K "int":=⟨λd b h=>match d,b,h with
 |.non,b,h=>by cases h;exact a0r
 |.bl _,b,h=>by cases h;exact a3y
 |.int _,b,h=>by cases h;exact a0v
 |.str _,b,h=>by cases h;exact a0p
 |.tup _,b,h=>by cases h;exact a0n
 |.lst _,b,h=>by cases h;exact a0t
 |.fn _,b,h=>by cases h
 |.dk _,b,h=>by cases h⟩
def wJ:W.kitOne [] jI! bI!=some ("bool"=="NoneType"):=by decide+kernel
def a0w:W.kitOne [] bI! bI!=some ("bool"=="bool"||"bool"=="int"):=by decide+kernel
def wL:W.kitOne [] bH_ bI!=some ("bool"=="int"):=by decide+kernel
def wI:W.kitOne [] bI_ bI!=some ("bool"=="str"):=by decide+kernel
def wH:W.kitOne [] be_ bI!=some ("bool"=="tuple"):=by decide+kernel
def wK:W.kitOne [] eN! bI!=some ("bool"=="list"):=by decide+kernel
def b8s{K:zY!}:Xe K "bool":=⟨λd b h=>match d,b,h with
 |.non,b,h=>by cases h;exact wJ
 |.bl _,b,h=>by cases h;exact a0w
 |.int _,b,h=>by cases h;exact wL
 |.str _,b,h=>by cases h;exact wI
 |.tup _,b,h=>by cases h;exact wH
 |.lst _,b,h=>by cases h;exact wK
 |.fn _,b,h=>by cases h
 |.dk _,b,h=>by cases h⟩
def a0q:W.kitOne [] jI! bI_=some ("str"=="NoneType"):=by decide+kernel
def a3x:W.kitOne [] bI! bI_=some ("str"=="bool"||"str"=="int"):=by decide+kernel
def a0u:W.kitOne [] bH_ bI_=some ("str"=="int"):=by decide+kernel
def a0o:W.kitOne [] bI_ bI_=some ("str"=="str"):=by decide+kernel
def a0m:W.kitOne [] be_ bI_=some ("str"=="tuple"):=by decide+kernel
def a0s:W.kitOne [] eN! bI_=some ("str"=="list"):=by decide+kernel
def a1b{K:zY!}:Xe K "str":=⟨λd b h=>match d,b,h with
 |.non,b,h=>by cases h;exact a0q
 |.bl _,b,h=>by cases h;exact a3x
 |.int _,b,h=>by cases h;exact a0u
 |.str _,b,h=>by cases h;exact a0o
 |.tup _,b,h=>by cases h;exact a0m
 |.lst _,b,h=>by cases h;exact a0s
 |.fn _,b,h=>by cases h
 |.dk _,b,h=>by cases h⟩
def uV:W.kitOne [] jI! be_=some ("tuple"=="NoneType"):=by decide+kernel
def wM:W.kitOne [] bI! be_=some ("tuple"=="bool"||"tuple"=="int"):=by decide+kernel
def uX:W.kitOne [] bH_ be_=some ("tuple"=="int"):=by decide+kernel
def uU:W.kitOne [] bI_ be_=some ("tuple"=="str"):=by decide+kernel
def uT:W.kitOne [] be_ be_=some ("tuple"=="tuple"):=by decide+kernel
def uW:W.kitOne [] eN! be_=some ("tuple"=="list"):=by decide+kernel
def mP{K:zY!}:Xe K "tuple":=⟨λd b h=>match d,b,h with
 |.non,b,h=>by cases h;exact uV
 |.bl _,b,h=>by cases h;exact wM
 |.int _,b,h=>by cases h;exact uX
 |.str _,b,h=>by cases h;exact uU
 |.tup _,b,h=>by cases h;exact uT
 |.lst _,b,h=>by cases h;exact uW
 |.fn _,b,h=>by cases h
 |.dk _,b,h=>by cases h⟩
def Eg(T:String)(f:e_):Ad->Option D:=λρ=>(ah_).bind λd=>(Fq T d).map D.bl
def kI{T:String}{x:Str}(ht:Xe X.K T)(hg:n2!)(hm:n2_)(mz:J!)(kz:cO!)(hv:n3!)(WH:mW_)(ha:U!)
  (g6:cO_:=by decide)(ji:y_:=by decide)
  (he:starEach [a,cv!] X.env=dy_::starEach [cv!] X.env:=by rfl)(ir:starEach [cv!] X.env=(false,eval db! X.env)::starEach [] X.env:=by rfl)
  (ax:(backTo pos (starEach [cv!] X.env)).any c_=false:=by rfl):DE X own (.Call (.Name "isinstance" p) [a,cv!] [] pos) (Eg T fa):=
 eI (oH (r:=BR X.K T) c0k hg hm hv (dA ha.ok (dA (c2c (v:=V.ty T) mz kz WH rfl g6 ji) fP ir) he) c! c! he ax) λZ G H Q ρ d er e k=>by
  show"!<";obtain⟨b,e2,rfl⟩:=IA.mp e;exact⟨G,ρ,x,er,e1,λv G1 H1 s1 r1=>⟨v,x,b,rfl,r1.mono s1.sub,ht.ok x b e2,ws_,ws_,wa_⟩⟩
def fN{K:zY!}{H:Hp}(h:Al K H [d] vs):∃v,vs=[v]/\Aq K H d v:=by obtain⟨v,r,rfl,J,h2⟩:=bF h;cases cG h2;exact⟨v,rfl,J⟩
def Bi:List D->Option D
 |[.tup xs]=>some (.int i_)
 |[.lst xs]=>some (.int i_)
 |[.str x]=>if cR_<=big then some (.int cR_)else none
 |_=>none
def eF{K:zY!}:Rl K wt! Bi:=by
 show"!`";unfold Bi at e;show"!8"
 .show"!C";obtain⟨a,ws,rfl,q,rr⟩:=bN rv;cases e;exact⟨_,_,rfl,.inr ⟨ws,bT sub q,aI rr⟩,dR_⟩
 .show"!C";obtain⟨a,ws,rfl,q,rr⟩:=bO rv;cases e;exact⟨_,_,rfl,.inl ⟨ws,nZ_,aI rr⟩,dR_⟩
 .show"!C";cases bW rv;show"!8"
  .show"!E";exact⟨_,_,rfl,⟨cV hl,rfl⟩,dR_⟩
  .cases e
 .cases e
def Fw:List D->Option D
 |[.int i]=>some (.int iG_)
 |_=>none
def c9n{K:zY!}:Rl K sp_ Fw:=by
 show"!`";unfold Fw at e;show"!8"
 .show"!C";cases aZ rv;cases e;exact⟨_,rfl,dR_⟩
 .cases e
def Yc:List D->Option D
 |[.str x]=>if cR_=1 then some sr_ else none
 |_=>none
def c9m{K:zY!}:Rl K ss! Yc:=by
 show"!`";unfold Yc at e;show"!8"
 .show"!C";cases bW rv;show"!8"
  .show"!E";exact⟨_,rfl,hl,dR_⟩
  .cases e
 .cases e
def sY:∀{bs:jK!} {us:g_},Ax (bs.map V.bl) us->us=bs.map Value.bool
 |[],_,.nil=>rfl
 |b::bs,_,.cons r t=>by cases r;rw[sY t];rfl
def BV(K:zY!):List V->Hp->VK->Prop:=λxs H Q=>∃(p:xz!) (bs:jK!),xs=jc!/\Fh K H p (bs.map V.bl)/\Q (.bl n3_) H
def b4e:∀(bs:jK!),((List.range bs.length).all λi=>(bs[i]?).getD true)=bs.all id:=λbs=>by
 rw[LR,LZ,LZ];show"#1"
 .intro h x hx;obtain⟨i,hi,rfl⟩:=PP.mp hx;have:=h i (PF.mpr hi);simpa[hi]using this
 .intro h i hi;have de:=PF.mp hi;simpa[de]using h bs[i] (LG de)
def vR(hc:ay!):Ir X wt_ (BV X.K):=by
 intro Y s Z H xs us Q I r h;obtain⟨p,bs,rfl,hq,q⟩:=h;obtain⟨u,rfl,r1⟩:=mT r;cases r1;obtain⟨its,rv,pl,hz⟩:=I.list hq;have e:=sY rv;subst e;have hl:=pl.isList;have au:p<g!:=by obtain⟨_,e,_⟩:=hl;exact IS e
 refine call_all_walk (QW hl ?_);refine⟨g!,[g!,p],[g!],(jL!).toArray.size,_,_,λi=>(bs[i]?).getD true,rfl,Walks.list (A:=X.A.in1) a3_ _ p (JF au) (jL!).toArray,
  ⟨eq!,hl.push _⟩,λi v s' Q' E' hP hQ=>?_,λh' tk hk=>?_⟩
 .have SU:jL![i]?=some v:=by simpa using hP
  rw[JN]at SU;obtain⟨b,hb,rfl⟩:=IA.mp SU;simp only[hb,Option.getD_some]at hQ;exact JW hQ
 .have e:((List.range (jL!).toArray.size).all λi=>(bs[i]?).getD true)=bs.all id:=by
   rw[HY,IP];exact b4e bs
  rw[e];exact⟨.bl _,H,I.kept (t':=tk) λb x ex=>hk b x (λhm=>by rw[IR.mp hm]at ex;exact LM _ (IS ex)) (HU _ ex),rfl,q⟩
def Mr:List D->Option (List Bool)
 |[]=>some []
 |.bl b::r=>(Mr r).map (b::·)
 |_=>none
def Qr:List D->Option D
 |[.lst xs]=>(Mr xs).map λbs=>.bl n3_
 |_=>none
def xE{K:zY!}{H:Hp}:∀{ds:b!} {vs:m_} {bs:jK!},Al K H ds vs->Mr ds=some bs->vs=bs.map V.bl
 |[],vs,bs,r,e=>by cases cG r;cases e;rfl
 |d::ds,vs,bs,r,e=>by
  obtain⟨v,t,rfl,r1,r2⟩:=bF r;cases d<;>first|cases e|skip
  obtain⟨bs',e1,rfl⟩:=IA.mp e;cases cS r1;rw[xE r2 e1];rfl
def a8q{K:zY!}:Rl K (BV K) Qr:=by
 show"!`";unfold Qr at e;show"!8"
 .show"!C";obtain⟨a,ws,rfl,q,rr⟩:=bO rv;obtain⟨bs,e1,rfl⟩:=IA.mp e;have:=xE rr e1;subst this;exact⟨a,bs,rfl,nZ_,dT!⟩
 .cases e
end
def Yk(K:zY!)(af:It)(ds:b!)(G1:Hp):Prop:=∀(i:Nat) (G' H':Hp),Ba G1 G'->Ba G' H'->
 wu_/\wv!
inductive FR(K:zY!)(own:k!)(fi:am!)(Z:St)(H:Hp)(R:fY!):Prop
 |mk (G:Hp) (ρ:Ad) (ds:b!) (o:b3!) (e:fi ρ=some ds) (k:∀af G1 H1,Cc G H G1 H1->Yk K af ds G1->R af H1):FR K own fi Z H R
structure DI(X:Cx)(own:k!)(tg iter:Expr)(fi:am!):Prop where
 ok:PI X tg iter (FR X.K own fi)
section
variable{X:Cx}{own:List Nat}{e a b c tg:Expr}{es:List Expr}{pos p2:Pos}{f fa fb fc:Ad->Option D}{fs fi:Ad->Option (List D)}{ft fu:Ad->Option Bool}
def a5c{wi:TI}(h:PI X tg e wi)(hw:∀Z G H R ρ ds,OR X.K own G H Z ρ->fi ρ=some ds->(∀af G1 H1,Cc G H G1 H1->Yk X.K af ds G1->R af H1)->wi Z H R):DI X own tg e fi:=⟨λY s Z H R I ⟨G,ρ,ds,er,e,k⟩=>h Y s Z H R I (hw Z G H R ρ ds er e k)⟩
def Ei(f:e_):Ad->Option aI_:=λρ=>(ah_).bind λd=>match d with|.lst xs=>some xs|_=>none
def FA(f:e_):Ad->Option aI_:=λρ=>(ah_).bind λd=>match d with|.tup xs=>some xs|_=>none
def a4h{K:zY!}{G1:Hp}{ad:xz!}(q:Fh K G1 ad vs)(r:Al K G1 ds vs):Yk K (FI K ad) ds G1:=by intro i G' H' s1 s2;have q':Fh K H' ad vs:=s2.seq (s1.seq q);refine⟨dT_,λhi=>⟨vs,q',by rw[<-aI r,hi];exact IN _⟩⟩;obtain⟨v,J,h2⟩:=gH r hd;refine⟨⟨vs,v,q',J⟩,gV_⟩;obtain⟨e1,e2⟩:=hy;subst e1;have:=e2 vs q';rw[J]at this;cases this;exact⟨G',jL_,h2.mono s1⟩
def eO(h:U!):DI X own tg a (Ei fa):=a5c (a9w h.ok) λZ G H R ρ ds er e k=>by
 obtain⟨d,e1,e2⟩:=HN.mp e;cases d<;>first|cases e2|skip
 refine e1_;obtain⟨p,vs,rfl,q,rr⟩:=bO r1;exact⟨p,rfl,⟨vs,s1.sub.seq q⟩,k _ G1 H1 s1 (a4h q rr)⟩
def Cy(n:Nat):List D:=(n6_).map λi=>.int (i:Nat)
def Fj(f:e_):Ad->Option aI_:=λρ=>(ah_).bind λd=>match d with|.int j=>if -1000<=j/\j<=100000 then some (Cy j.toNat)else none|_=>none
def b3l{K:zY!}{G1:Hp}{n:Nat}:Yk K (CO 0 n) (Cy n) G1:=by intro i G' H' s1 s2;unfold Cy;refine ww!;rw[JN]at hd;obtain⟨j,hj,rfl⟩:=IA.mp hd;obtain⟨hl,he⟩:=IJ.mp hj;rw[PZ]at he;subst he;rw[NJ]at hl;refine⟨hl,gV_⟩;obtain⟨e1,e2⟩:=hy;subst e1 e2;refine⟨G',jL_,?_⟩;rw[Int.zero_add];exact Aq.int
def gM{pos:Pos}(hg:iu_)(hm:iv!)(h:U!)(hs:rQ_:=by rfl)(b9:n8!:=by rfl):
  DI X own tg rT_ (Fj fa):=a5c (b2m hg hm (dA h.ok fP b9) hs) λZ G H R ρ ds er e k=>by
 obtain⟨d,e1,e2⟩:=HN.mp e;cases d<;>first|cases e2|skip
 rename_i j;have e3:(if -1000<=j/\j<=100000 then some (Cy j.toNat)else none)=some ds:=e2;split at e3
 .rename_i hj;cases e3;refine e1_;cases aZ r1;exact⟨j,rfl,s_,s_,k _ G1 H1 s1 b3l⟩
 .cases e3
def Dz(bnd:ad!)(ft:W_)(fe:e_)(ρ:Ad):List D->Option aI_
 |[]=>some []
 |d::ds=>(jM!).bind λam=>(ft am).bind λb=>if b then(fe am).bind λy=>(Dz bnd ft fe ρ ds).map (y::·)else Dz bnd ft fe ρ ds
def GD(K:zY!)(g:TG)(bnd:ad!):Prop:=∀{x:V} {d:D} {Z:St} {G H:Hp} {ρ am:Ad} {Q:im_},OR K [] G H Z ρ->Aq K G d x->bnd d ρ=some am->(∀bw,OR K [] G H bw am->Le ρ am->Q bw H)->g x Z H Q
def Bf(i:Nat):D->Ad->Option Ad:=λd ρ=>match ρ[i]? with|some none=>some bG_|_=>none
def dC{K:zY!}(i:Nat):GD K eo_ (Bf i):=by
 intro x d Z G H ρ am Q er r e k;unfold Bf at e;show"!8"
 .rename_i h;cases e;exact k _ (er.set b_ r) ((Le.refl ρ).set h)
 .cases e
def Qp(i j:Nat):D->Ad->Option Ad:=λd ρ=>match d with
 |.tup [x,y]=>(Bf i x ρ).bind λam=>Bf j y am
 |_=>none
def Le.trans{ρ am ba:Ad}(a:Le ρ am)(b:Le am ba):Le ρ ba:=⟨a.1.trans b.1,λi d h=>b.2 i d (a.2 i d h)⟩
def c3p{K:zY!}(i j:Nat):GD K wx_ (Qp i j):=by
 intro x d Z G H ρ am Q er r e k;unfold Qp at e;show"!8"
 .obtain⟨ba,e1,e2⟩:=HN.mp e;show"!V";show"!5";refine⟨p,[v1,v2],rfl,bT er.sub q,rfl,v1,[v2],rfl,?_⟩;refine dC i er r1 e1 λbw m7 l1=>⟨v2,[],rfl,?_⟩;exact dC j m7 r2 e2 λc9 cx l2=>⟨rfl,k c9 cx (l1.trans l2)⟩
 .cases e
def Fv(nl:Nat)(ix:k!)(fi:am!)(bnd:ad!)(ft:W_)(fe:e_):Ad->Option D:=λρ=>(fi ρ).bind λds=>if f_<=big then(Dz bnd ft fe nL_ ds).map D.lst else none
def c9l{K:zY!}{af:It}{ds:b!}{G1 H1:Hp}{g:TG}{bnd:ad!}{ft:W_}{fe:e_}{j0:Ad}{sh:St}{Fin:cN!}
  (hb:f_<=big)(fg:Yk K af ds G1)(hg:GD K g bnd)(er:OR K [] G1 H1 sh j0)(e:Dz bnd ft fe j0 ds=some jl)(k:∀ys G' H',Cc G1 H1 G' H'->Al K G' jl ys->Fin ys H'):
  Vj af g (Zj K [] ft) (tD K [] fe) Fin sh H1:=by
 refine⟨λi m ys ac H'=>i<=f_/\m=f_ - i/\∃G' ws r,Cc G1 H1 G' H'/\OR K [] G' H' ac j0/\Al K G' ws ys/\mX_<=i/\Dz bnd ft fe j0 (ds.drop i)=some r/\ws++r=jl,
  ⟨f_,JK _,rfl,G1,[],jl,Cc.refl er.sub,er,Al.nil,JK _,e,rfl⟩,?_⟩
 rintro i m ys ac H' ⟨hi,rfl,G',ws,r,x,cr,az,hw,cx,et⟩;refine wy!;obtain⟨m8,m9⟩:=fg i G' H' x.g cr.sub;by_cases au:i<f_
 .right;have hd:ds[i]?=some ds[i]:=by simp[au]
  have wy:ds.drop i=ds[i]::ds.drop ab_:=ND au;rw[wy]at cx;unfold Dz at cx;obtain⟨am,e1,cx⟩:=HN.mp cx;obtain⟨b,e2,cx⟩:=HN.mp cx;obtain⟨go,yl⟩:=m8 _ hd;refine⟨go,jP_⟩;obtain⟨G2,x2,r2⟩:=yl v H2 hy;refine hg (cr.grow x2) r2 e1 λbw m7 si=>⟨G2,am,b,m7,e2,λG3 H3 x3=>?_⟩;have j3:=m7.grow x3;have k8:Cc G1 H1 G3 H3:=x.trans (x2.trans x3);cases b with
  |true=>
   obtain⟨y,e3,cx⟩:=HN.mp cx;obtain⟨zs,e4,rfl⟩:=IA.mp cx;refine kD ⟨G3,am,y,j3,e3,λu G4 H4 x4 r4=>⟨_,?_,au,rfl,G4,ws++[y],zs,k8.trans x4,(j3.grow x4).le si,?_,?_,e4,?_⟩⟩
   .omega
   .exact cU wz! (Al.cons r4 Al.nil)
   .rw[JA,LQ];omega
   .rw[KL];exact et
  |false=>
   refine kW ⟨_,?_,au,rfl,G3,ws,r,k8,j3.le si,(oa_).mono x3.g,s_,cx,et⟩;omega
 .left;have iu:i=f_:=by omega
  refine⟨m9 iu,k ys G' H' x ?_⟩;rw[iu,QT]at cx;cases cx;rw[JH]at et;subst et;exact az
def kJ{scope:Scope}{NL:o!}{ix:k!}{g:TG}{bnd:ad!}{fe:e_}
  (cj:c6_)(cf:c7!)(jz:∀y∈b1_,y.2=.local->scope.names.lookup y.1=some .local)
  (gw:gK_)(cap:c6!)(hix:jw!)(calm:ay!)(ar:DI X own tg iter fi)
  (hg:gL!)(na:ob!)(hi:∀cl C ao bf fp,Pc b2! db wA_)(he:∀cl C ao bf fp,DE b2! [] d6 fe)
  (hs:cQ_:=by intro _;rfl):
  DE X own gI! (Fv NL.length ix fi bnd ft fe):=
 eI wB_ λZ G H Q ρ d er e k=>by
  show"!G"
  .rename_i hb;obtain⟨jl,e2,rfl⟩:=IA.mp e;refine⟨G,ρ,ds,er,e1,wC!⟩;refine c9l hb fg na ((er.grow x1).cap NL.length ix hix) e2 λys G' H' x r p hp=>?_;exact k _ _ _ (x1.trans (x.trans gX!)) (dM ob_ r)
  .cases e
def a3d:Pc X [] (Zj X.K [] λ_=>some true):=λY s Z H Q I ⟨G,ρ,b,er,e,k⟩=>by
 cases e;exact a3c Y s Z H Q I (k G H gO!)
def c5e(h:DT X [] c ft):Pc X [c] wA_:=a3b h.ok
end
inductive Fl where
 |nx (ρ:Ad)|rt (d:D)
structure SR(K:zY!)(own:k!)(G0 F0 G H:Hp)(Z:St)(ρ:Ad):Prop where
 or:OR K own G H Z ρ
 ext:Cc G0 F0 G H
 fr:∀i∈own,∀p,Z[i]?=some b2_->F0 p=none
inductive CW(K:zY!)(G0 F0:Hp)(own ae:k!)(f:aJ_)(E:Sj)(Z:St)(H:Hp):Prop
 |mk (G:Hp) (ρ:Ad) (r:Fl) (o:e3_) (e:f ρ=some r) (k:match(generalizing:=false) r with
  |.nx ρ'=>∀G' ac H',SR K ae G0 F0 G' H' ac ρ'->E.nx ac H'
  |.rt d=>∀v G' H',Cc G0 F0 G' H'->Aq K G' d v->E.rt v H'):CW K G0 F0 own ae f E Z H
structure DS(X:Cx)(own ae:k!)(st:Stmt)(f:aJ_):Prop where
 ok:∀G0 F0,PS X st wC_
structure Xg(X:Cx)(own ae:k!)(st:by!)(f:aJ_):Prop where
 ok:∀G0 F0,Ox X st wC_
section
variable{X:Cx}{own bc f9:List Nat}{st:Stmt}{rest body:List Stmt}{e a b c tg:Expr}{es:List Expr}{pos p2:Pos}{f fa fb fc:Ad->Option D}{fs fi:Ad->Option (List D)}{ft fu:Ad->Option Bool}{q1 q2 q3:Ad->Option Fl}
def c5u{t:TS}(h:ij!)(hw:∀G0 F0 E Z G H ρ r,SR X.K own G0 F0 G H Z ρ->q1 ρ=some r->(match r with
  |.nx ρ'=>∀G' ac H',SR X.K bc G0 F0 G' H' ac ρ'->E.nx ac H'
  |.rt d=>∀v G' H',Cc G0 F0 G' H'->Aq X.K G' d v->E.rt v H')->t E Z H):DS X own bc st q1:=⟨λG0 F0 Y s Z H E I ⟨G,ρ,r,er,e,k⟩=>h Y s Z H E I (hw G0 F0 E Z G H ρ r er e k)⟩
def SR.grow{K:zY!}{G0 F0 G H G' H':Hp}{Z:St}{ρ:Ad}(s:e3_)(x:jv_):SR K own G0 F0 G' H' Z ρ:=⟨s.or.grow x,s.ext.trans x,s.fr⟩
def SR.set{K:zY!}{G0 F0 G H:Hp}{Z:St}{ρ:Ad}{i:Nat}(s:e3_)(hi:aP!)(r:cs!):SR K own G0 F0 G H ej_ bG_:=
 ⟨s.or.set hi r,s.ext,λj hj p e=>by
  have ne:i≠j:=λz=>hi (z▸hj);rw[JG ne]at e;exact s.fr j hj p e⟩
def Cj:Ad->Option Fl:=λρ=>some ad_
nonrec def sSeq(q1 q2:aJ_):Ad->Option Fl:=λρ=>(q1 ρ).bind λr=>match r with|.nx ρ'=>q2 ρ'|.rt d=>some aP_
def dO:Xg X own own [] Cj:=⟨λG0 F0 Y s Z H E I ⟨G,ρ,r,er,e,k⟩=>by
 cases e;exact a9u Y s Z H E I (k G Z H er)⟩
def bB(J:wD!)(h2:Xg X bc f9 rest q2):Xg X own f9 ij_ (sSeq q1 q2):=⟨λG0 F0 Y s Z H E I ⟨G,ρ,r,er,e,k⟩=>by
 refine tX oc! (h2.ok G0 F0) Y s Z H E I ?_;obtain⟨r1,e1,e2⟩:=HN.mp e;refine⟨G,ρ,r1,er,e1,?_⟩;cases r1 with
 |nx ρ'=>exact λG' ac H' cr=>⟨G',ρ',r,cr,e2,k⟩
 |rt d=>
  cases e2;exact k⟩
def bC(J:wD!):Xg X own bc [st] q1:=⟨λG0 F0=>gY oc!⟩
def SR.free{K:zY!}{G0 F0 G H:Hp}{Z:St}{ρ:Ad}(s:e3_):SR K [] G0 F0 eX_ H Z ρ:=by
 have o:=s.or.full;refine⟨o,⟨jv!,s.ext.h,o.sub,bd!⟩,au!⟩
 .have z:=s.ext.g b u e;unfold Kn;split
  .exact s.or.sub b u z
  .exact z
 .unfold Kn at h;split at h
  .rename_i hb;obtain⟨i,hi,q⟩:=mM hb;exact .inr (s.fr i hi b q)
  .exact s.ext.new b h
def a5a(h:Xg X [] f9 rest q1):Xg X own f9 rest q1:=⟨λG0 F0 Y s Z H E I ⟨G,ρ,r,er,e,k⟩=>h.ok G0 F0 Y s Z H E I ⟨_,ρ,r,er.free,e,k⟩⟩
def Bc(f:e_):Ad->Option Fl:=λρ=>(ah_).map Fl.rt
def bP(h:c8_):DS X own bc ik_ (Bc f):=c5u (a6v h.ok) λG0 F0 E Z G H ρ r er e' k=>by
 obtain⟨d,e1,rfl⟩:=IA.mp e';exact⟨G,ρ,d,er.or,e1,λv G' H' x r=>k v G' H' (er.ext.trans x) r⟩
def Cd(i:Nat)(f:e_):Ad->Option Fl:=λρ=>(ah_).map λd=>.nx bG_
def fE{i:Nat}(hN:aT_)(hi:aa_)(hx:a2_)(h:c8_)(bt:aP!:=by decide)(hs:oc_:=by rfl)
  (hf:X.fn x=true\/X.env.scope.names.lookup x=some .local:=by first|exact .inl rfl|exact .inr rfl|assumption):DS X own own wD_ (Cd i f):=
 c5u wE_ λG0 F0 E Z G H ρ r er e' k=>by
  obtain⟨d,e1,rfl⟩:=IA.mp e';exact⟨G,ρ,d,er.or,e1,λv G' H' x r=>k G' _ H' ((gX_).set bt r)⟩
def Ge(ft:W_)(q1 q2:aJ_):Ad->Option Fl:=λρ=>(gQ_).bind λb=>if b then q1 ρ else q2 ρ
def gL{b1 b2:by!}(hc:DT X own c ft)(J:Xg X own bc b1 q1)(h2:Xg X own bc b2 q2):DS X own bc od! (Ge ft q1 q2):=⟨λG0 F0 Y s Z H E I ⟨G,ρ,r,er,e',k⟩=>by
 refine b5v hc.ok oc! (h2.ok G0 F0) Y s Z H E I ?_;obtain⟨x,e1,e2⟩:=HN.mp e';refine⟨G,ρ,x,er.or,e1,λG' H' x'=>?_⟩;cases x with
 |true=>exact kD wF_
 |false=>exact kW wF_⟩
def Ni(i:Nat)(fs:am!):Ad->Option Fl:=λρ=>(eZ!).bind λds=>if f_<=1000 then some (.nx od_)else none
def SR.ownNew{K:zY!}{G0 F0 G H:Hp}{Z:St}{ρ:Ad}{i:Nat}(s:e3_)(hi:aP!)(hl:i<ej!)(r:jQ!)(hp:cq_):
  SR K (i::own) G0 F0 G ju! (Z.set i b2_) od_:=by
 have wz:i<gN!:=by rw[s.or.len];exact hl
 have w4:Ba H ju!:=iH hp;show"#0";refine⟨⟨wG_,by rw[MM,MM,s.or.len],wH!,jQ_,λj hj k hk hne a b e1 e2=>?_⟩,⟨s.ext.g,s.ext.h.trans w4,wG_,s.ext.new⟩,λj hj a e=>?_⟩
 .have cy:i≠j:=λz=>n (by rw[z];exact HX);rw[JG cy]at q ⊢;exact s.or.at_ j d q λz=>n (HS _ z)
 .obtain z|z:=HV.mp hj
  .subst z;exact⟨p,ds,vs,by rw[JQ wz],by rw[JQ hl],bQ,s.or.sub.free hp,r⟩
  .have cy:i≠j:=λy=>hi (y▸z);obtain⟨a,qc,gb,J,h2,h3,h4,h5⟩:=s.or.own_ j z;exact⟨a,qc,gb,by rw[JG cy];exact J,by rw[JG cy];exact h2,by rw[aY (ne h3)];exact h3,h4,h5⟩
 .have look:∀{j:Nat} {a:xz!},j∈i::own->(Z.set i b2_)[j]?=some jR_->(j=i/\a=p)\/(j≠i/\j∈own/\Z[j]?=some jR_/\a≠p):=λ{j a} hj e=>by
   by_cases cy:i=j
   .subst cy;rw[JQ hl]at e;cases e;exact .inl aE!
   .rw[JG cy]at e;have hm:j∈own:=(HV.mp hj).elim wH_ id;obtain⟨a',qc,gb,J,h2,h3,h4,h5⟩:=s.or.own_ j hm;rw[e]at h2;cases h2;exact .inr ⟨JE cy,hm,e,ne h3⟩
  obtain⟨z1,z2⟩|⟨z1,z2,z3,z4⟩:=look hj e1
  .obtain⟨y1,y2⟩|⟨y1,y2,y3,y4⟩:=look hk e2
   .exact absurd (z1.trans y1.symm) hne
   .rw[z2];exact JE y4
  .obtain⟨y1,y2⟩|⟨y1,y2,y3,y4⟩:=look hk e2
   .rw[y2];exact z4
   .exact s.or.dis j z2 k y2 hne a b z3 y3
 .by_cases cy:i=j
  .subst cy;rw[JQ hl]at e;cases e;exact s.ext.h.free hp
  .rw[JG cy]at e;exact s.fr j ((HV.mp hj).elim wH_ id) a e
def qZ{i:Nat}{p3 p4:Pos}(hN:aT_)(hi:aa_)(hx:a2_)(h:jA_)(bt:aP!:=by decide)
  (hf:X.fn x=true\/X.env.scope.names.lookup x=some .local:=by first|exact .inl rfl|exact .inr rfl|assumption)(cm:swapsWith (.List es p2) (some (.Name x p3)) p4.line X.env=pure false:=by rfl):DS X own (i::own) (.Assign [.Name x p3] (.List es p2) p4) (Ni i fs):=⟨λG0 F0 Y s Z H E I ⟨G,ρ,r,er,e',k⟩=>by
  refine tY hN hi hx nS_ cm hf Y s Z H E I ?_;have hl:i<ej!:=by rw[I.len];exact(IJ.mp hi).1
  obtain⟨ds,e1,e2⟩:=HN.mp e';split at e2
  .rename_i hsz;cases e2;exact⟨G,ρ,ds,er.or,e1,λvs G' H' x r=>⟨by rw[<-aI r];exact eY hsz,λp hp=>k G' _ _ ((gX_).ownNew bt hl r hp)⟩⟩
  .cases e2⟩
def SR.upd{K:zY!}{G0 F0 G H:Hp}{Z:St}{ρ:Ad}{i:Nat}(s:e3_)(hi:dQ!)(hp:vL_)(r:jQ!):
  SR K own G0 F0 G ju! Z od_:=by
 obtain⟨p',qc,gb,J,h2,h3,h4,h5⟩:=s.or.own_ i hi;rw[hp]at h2;cases h2;have hG:∀{b u},G b=some u->b≠p:=λe=>cC e h4;have hF:∀{b u},F0 b=some u->b≠p:=λe=>cC e (s.fr i hi p hp);have wz:i<gN!:=(jS!).1;refine⟨⟨wI!,by rw[MM,s.or.len],wH!,jQ_,s.or.dis⟩,⟨s.ext.g,λb u e=>by rw[aY (hF e)];exact s.ext.h b u e,wI!,s.ext.new⟩,s.fr⟩
 .have cy:i≠j:=λz=>n (z▸hi);rw[JG cy]at q;exact s.or.at_ j d q n
 .by_cases cy:i=j
  .subst cy;exact⟨p,ds,vs,by rw[JQ wz],hp,bQ,h4,r⟩
  .obtain⟨a,WJ,SV,g1,g2,g3,g4,g5⟩:=s.or.own_ j hj;have ne:a≠p:=JE (s.or.dis i hi j hj cy p a hp g2);exact⟨a,WJ,SV,by rw[JG cy];exact g1,g2,by rw[aY ne];exact g3,g4,g5⟩
def Rq(i:Nat)(f:e_):Ad->Option Fl:=λρ=>(ah_).bind λd=>match ρ[i]? with|some (some (.lst ds))=>if f_<big then some wJ! else none|_=>none
def yI{i:Nat}{x:Str}{ay ai:Pos}(bt:dQ!:=by decide)(h:c8_)(hN:aa_:=by rfl)(hv:cf_:=by first|exact Or.inl rfl|exact Or.inr a_|exact Or.inr bd_)
  (hd:y_:=by decide)(bv:cg!:=by decide)
  (hst:gZ!:=by rfl)(ik:((jf_).all c3_&&(c4!).all c4_
   &&decide wJ_)=true:=by rfl) (io:eO_:=by rfl)
  (ij:attributeBase bf_ "append" X.env jS_=eval bf_ X.env:=by rfl) (ip:jT!:=by rfl) (fh:swapsWith wK! none pos.line X.env=pure false:=by rfl):
  DS X own own (.Expr wK! pos) (Rq i f):=⟨λG0 F0 Y s Z H E I ⟨G,ρ,r,er,e',k⟩=>by
  refine oE (a3e OU PySem.F.slot_list_append PySem.F.type_list_append xP jx! wK_ ij ik io hst ip) fh Y s Z H E I ?_;obtain⟨d,e1,e2⟩:=HN.mp e';obtain⟨p,ds,vs,J,h2,h3,h4,h5⟩:=er.or.own_ i bt;rw[J]at e2;simp only at e2;split at e2
  .rename_i hl;cases e2;refine⟨e4_,h2,oh_,G,ρ,d,er.or,e1,λv G' H' x r=>⟨p,vs,v,rfl,rfl,x.h _ _ h3,?_,?_⟩⟩
   .rw[<-aI h5];exact IW hl (cV v_)
   .exact k G' Z _ ((gX_).upd bt h2 (cU oi! (Al.cons r Al.nil)))
  .cases e2⟩
def Uc(i:Nat)(fx fv:e_):Ad->Option Fl:=λρ=>(fv ρ).bind λd=>(fx ρ).bind λx=>match x,ρ[i]? with|.int j,some (some (.lst ds))=>(oi_).map λk=>.nx wL_|_,_=>none
def b9r{i:Nat}{x:Str}{fx fv:e_}(bt:dQ!:=by decide)(hx:wN!)(hv:DE X own e fv)(hN:aa_:=by rfl)(w5:cf_:=by first|exact Or.inl rfl|exact Or.inr a_|exact Or.inr bd_)
  (hd:y_:=by decide)(bv:cg!:=by decide)
  (ha:∀v,assign wM_ X.env v=(do
   let ov <-holding [v] jS_
   let iv <-holding [v,ov] (eval ix X.env)
   standAt p2
   holding ep! l1_
   release ep! []):=by intro _;rfl)
  (hs:swapsWithSole jU! e pos.line X.env=pure false:=by rfl) (hw:swappedStores jU! e X.env=pure none:=by rfl)
  (J:(assignEach jU! X.env).map M!=[assign wM_ X.env]:=by rfl):
  DS X own own (.Assign jU! e pos) (Uc i fx fv):=⟨λG0 F0 Y s Z H E I ⟨G,ρ,r,er,e',k⟩=>by
  refine b5x hv.ok (b6e wN_ hx.ok a2h ha) hs hw J Y s Z H E I ?_;obtain⟨d,e1,e2⟩:=HN.mp e';obtain⟨z,e3,e4⟩:=HN.mp e2;obtain⟨p,ds,vs,J,h2,h3,h4,h5⟩:=er.or.own_ i bt;rw[J]at e4;cases z<;>first|cases e4|skip
  rename_i j;obtain⟨n,e5,rfl⟩:=IA.mp (show(oi_).map _=some r from e4);refine⟨G,ρ,d,er.or,e1,λv G' H' x r=>⟨e4_,h2,G',ρ,eq_,er.or.grow x,e3,wO_⟩⟩;cases aZ r2;refine⟨p,vs,j,n,rfl,rfl,wP_,by rw[<-aI h5];exact e5,?_⟩;exact k G2 Z _ (((gX_).grow x2).upd bt h2 (tS (r.mono x2.g) n ((oi!).mono x2.g)))⟩
def Ln(i:Nat)(fx:e_):Ad->Option D:=λρ=>(fx ρ).bind λx=>match x,ρ[i]? with|.int j,some (some (.lst ds))=>Cs ds j|_,_=>none
def rA{i:Nat}{x:Str}{fx:e_}(bt:dQ!:=by decide)(hx:wN!)(hs:Nu ix)(hN:aa_:=by rfl)(w5:cf_:=by first|exact Or.inl rfl|exact Or.inr a_|exact Or.inr bd_)
  (hd:y_:=by decide)(bv:cg!:=by decide):DE X own (.Subscript bf_ ix pos) (Ln i fx):=
 eI (b0a b0x wN_ hx.ok hs) λZ G H Q ρ d er e k=>by
  obtain⟨z,e3,e4⟩:=HN.mp e;obtain⟨p,ds,vs,J,h2,h3,h4,h5⟩:=er.own_ i bt;rw[J]at e4;cases z<;>first|cases e4|skip
  rename_i j;have e5:Cs ds j=some d:=e4;obtain⟨v,e6,r6⟩:=nZ h5 e5;refine⟨e4_,h2,G,ρ,eq_,er,e3,wO_⟩;cases aZ r2;exact⟨p,vs,j,v,rfl,rfl,Fh.of (x2.h _ _ h3),e6,k v G2 H2 x2 (r6.mono x2.g)⟩
def Qj(bnd:ad!)(q:aJ_):List D->Ad->Option Fl
 |[],ρ=>some ad_
 |d::ds,ρ=>(jM!).bind λam=>(q am).bind λr=>match r with|.nx ba=>Qj bnd q ds ba|.rt d=>some aP_
def Qu(fi:am!)(bnd:ad!)(q:aJ_):Ad->Option Fl:=λρ=>(fi ρ).bind λds=>Qj bnd q ds ρ
def Qo(F0 G1:Hp):Hp:=λb=>match F0 b with|some o=>some o|none=>G1 b
def SR.base{K:zY!}{G0 F0 G1 H1:Hp}{Z:St}{ρ:Ad}(s:SR K own G0 F0 G1 H1 Z ρ):SR K own G1 g0! G1 H1 Z ρ:=by
 refine⟨s.or,⟨Ba.refl _,jv!,s.or.sub,db_⟩,wQ!⟩
 .unfold Qo at e;show"!8"
  .rename_i o ho;cases e;exact s.ext.h b _ ho
  .exact s.or.sub b u e
 .obtain⟨p',ds,vs,J,h2,h3,h4,h5⟩:=s.or.own_ i hi;rw[e]at h2;cases h2;unfold Qo;rw[s.fr i hi p e];exact h4
def vI{G0 F0 G1 H1 G' H':Hp}(x:wQ_)(y:Cc G1 g0! G' H'):Cc G0 F0 G' H':=by
 refine⟨x.g.trans y.g,λb u e=>y.h b u ?_,y.sub,bd!⟩
 .unfold Qo;rw[e]
 .obtain z|z:=y.new b h
  .exact x.new b z
  .right;unfold Qo at z;split at z
   .cases z
   .assumption
def SR.unbase{K:zY!}{G0 F0 G1 H1 G' H':Hp}{Z:St}{ρ:Ad}(x:wQ_)(s:SR K own G1 g0! G' H' Z ρ):SR K own G0 F0 G' H' Z ρ:=
 ⟨s.or,vI x s.ext,λi hi p e=>by
  have z:=s.fr i hi p e;unfold Qo at z;split at z
  .cases z
  .assumption⟩
def Cq(i:Nat):D->Ad->Option Ad:=λd ρ=>some bG_
def a8i{i:Nat}(hp:fX!)(hc:ay!)(ar:DI X own db! iter fi)(hN:aT_)(hi:aa_)(hx:a2_)(hb:Xg X own own body q1)(bt:aP!:=by decide)
  (hf:X.fn x=true\/X.env.scope.names.lookup x=some .local:=by first|exact .inl rfl|exact .inr rfl|assumption)(hs:cQ_:=by intro _;rfl):
  DS X own own (.For db! iter body [] pos) (Qu fi (Cq i) q1):=⟨λG0 F0 Y s Z H E I ⟨G,ρ,r,er,e',k⟩=>by
 obtain⟨ds,e1,e2⟩:=HN.mp e';have gc:Ox X body (λE Z H=>∃A B,CW X.K A B own own q1 E Z H):=λY s Z H E I ⟨A,B,h⟩=>hb.ok A B Y s Z H E I h;refine b5w hp hc ar.ok (bH hN hi hx hf) gc hs Y s Z H E I ⟨G,ρ,ds,er.or,e1,wC!⟩;have SW:Cc G0 F0 G1 H1:=er.ext.trans x1;refine⟨λn m ac H'=>n<=f_/\m=f_ - n/\∃G' ρ',SR X.K own G1 g0! G' H' ac ρ'/\Qj (Cq i) q1 nI_ ρ'=some r,
  ⟨f_,JK _,rfl,G1,ρ,(er.grow x1).base,e2⟩,?_⟩
 rintro n m ac H' ⟨hn,rfl,G',ρ',cr,e3⟩;obtain⟨m8,m9⟩:=fg n G' H' cr.ext.g cr.or.sub;by_cases au:n<f_
 .right;have hd:ds[n]?=some ds[n]:=by simp[au]
  have wy:ds.drop n=ds[n]::ds.drop cy_:=ND au;rw[wy]at e3;unfold Qj at e3;obtain⟨am,e4,e3⟩:=HN.mp e3;obtain⟨r1,e5,e3⟩:=HN.mp e3;cases e4;obtain⟨go,yl⟩:=m8 _ hd;refine⟨go,λc9 H2=>∃G2 ba,SR X.K own G1 g0! G2 H2 c9 ba/\Qj (Cq i) q1 (ds.drop cy_) ba=some r,λc9 H2 ⟨G2,ba,J,h2⟩=>⟨f_ - cy_,s_,au,rfl,G2,ba,J,h2⟩,jP_⟩;obtain⟨G2,x2,r2⟩:=yl v H2 hy;refine⟨G1,Qo F0 G1,G2,_,r1,(cr.grow x2).set bt r2,e5,?_⟩;cases r1 with
  |nx ba=>exact λG3 gi H3 j3=>⟨G3,ba,j3,e3⟩
  |rt d=>
   cases e3;exact λw G3 H3 x3 r3=>k w G3 H3 (vI SW x3) r3
 .left;have iu:n=f_:=by omega
  refine ol!;rw[iu,QT]at e3;cases e3;exact k G' ac H' (SR.unbase SW cr)⟩
def tG{K:zY!}{G H:Hp}{N:o!}{ds:b!}(s:E!)(r:jQ!):OR K [] G H (L2.Mf N vs) g0_:=by
 have hl:=aI r;unfold L2.Mf;refine⟨s,by simp[hl],nK!,au!,au!⟩;by_cases hi:i<f_
 .rw[LA gk!,JN]at q;obtain⟨d',J,h2⟩:=IA.mp q;cases h2;obtain⟨v,h3,h4⟩:=gH r J;exact⟨v,by rw[LA (by simpa[<-hl]using hi),JN,h3];rfl,h4⟩
 .rw[eF!,MB]at q;split at q<;>cases q
end
def c9c{K:zY!}{mg:x!}{st:Stmt}{N ps:o!}{k:Nat}{ae:k!}{q:aJ_}{g:ac_}
  (F:wR!)(S:c5!)
  (hb:∀(ah:xT!) (A:x8!) (outer:P_) (s:z6!) (H:Hp) (E:XK),Ak k om!->Xg (om_).nox [] ae bs! q)
  (hg:∀ds d,f_=R_->g ds=some d->q g0_=some aP_\/∃ρ,q g0_=some ad_/\d=.non):
  Fk P w K mg base Pd M_ ag fd ps jV!:=by
 refine wS!;obtain⟨hl,G,ds,d,sub,r,e,kk⟩:=h;refine⟨_,(wS_).ok G H,?_⟩;have er:=tG (N:=N) sub r;rcases hg ds d (by rw[aI r];exact hl) e with z|⟨ρ,z,rfl⟩
 .exact⟨G,_,_,wT_,z,λv G' H' x r=>kk v G' H' x r⟩
 .exact⟨G,_,_,wT_,z,λG' ac H' cr=>kk _ G' H' cr.ext Aq.non⟩
mutual
noncomputable def Eh:D->D->Bool
 |.non,.non=>true
 |.bl a,.bl b=>a==b
 |.bl a,.int b=>tT!==b
 |.int a,.bl b=>a==tT_
 |.int a,.int b=>a==b
 |.str a,.str b=>a==b
 |.tup xs,.tup ys=>Ij xs ys
 |.lst xs,.lst ys=>Ij xs ys
 |_,_=>false
noncomputable def Ij:List D->List D->Bool
 |[],[]=>true
 |x::xs,y::ys=>Eh x y&&Ij xs ys
 |_,_=>false
end
mutual
noncomputable def Az:D->Bool
 |.fn _=>false
 |.dk _=>false
 |.tup xs=>Bv xs
 |.lst xs=>Bv xs
 |_=>true
noncomputable def Bv:List D->Bool
 |[]=>true
 |d::ds=>Az d&&Bv ds
end
section
variable{X:Cx}{Y:List (Addr×Obj)}{Z:St}{H:Hp}{s:z6!}
def tF(I:d!)(h:jV_)(h':Fh X.K H a ws):False:=by obtain⟨_,_,⟨o,e,c,_⟩,_⟩:=I.tuple h;obtain⟨_,_,⟨o',n,e',c',_⟩,_⟩:=I.list h';rw[e]at e';cases e';rw[c]at c';exact absurd c' b_
mutual
theorem zN(I:d!):∀(d d':D) (v:V),Az d=true->Az d'=true->Aq X.K H d v->Aq X.K H d' v->d=d'
 |.non,d',v,n,n',r,r'=>by
  cases dR r;cases d'<;>first
   |rfl
   |(unfold Aq at r';cases r';done)
   |(obtain⟨a,vs,e,_⟩:=bN r';cases e)
   |(obtain⟨a,vs,e,_⟩:=bO r';cases e)
   |(unfold Az at n';cases n')
 |.bl b,d',v,n,n',r,r'=>by
  cases cS r;cases d'<;>first
   |(cases cS r';rfl;done)
   |(unfold Aq at r';cases r';done)
   |(obtain⟨a,vs,e,_⟩:=bN r';cases e)
   |(obtain⟨a,vs,e,_⟩:=bO r';cases e)
   |(unfold Az at n';cases n')
 |.int b,d',v,n,n',r,r'=>by
  cases aZ r;cases d'<;>first
   |(cases aZ r';rfl;done)
   |(unfold Aq at r';cases r';done)
   |(obtain⟨a,vs,e,_⟩:=bN r';cases e)
   |(obtain⟨a,vs,e,_⟩:=bO r';cases e)
   |(unfold Az at n';cases n')
 |.str b,d',v,n,n',r,r'=>by
  cases bW r;cases d'<;>first
   |(cases bW r';rfl;done)
   |(unfold Aq at r';cases r';done)
   |(obtain⟨a,vs,e,_⟩:=bN r';cases e)
   |(obtain⟨a,vs,e,_⟩:=bO r';cases e)
   |(unfold Az at n';cases n')
 |.tup xs,d',v,n,n',r,r'=>by
  obtain⟨a,vs,rfl,q,rr⟩:=bN r;cases d' with
  |tup ys=>
   obtain⟨a',gb,e,q',bz⟩:=bN r';cases e;have:=I.tuple_inj q q';subst this;unfold Az at n n';rw[wU!]
  |lst ys=>
   obtain⟨a',gb,e,q',bz⟩:=bO r';cases e;exact(tF I q q').elim
  |fn b=>unfold Az at n';cases n'
  |dk b=>unfold Az at n';cases n'
  |non=>cases dR r'
  |bl b=>cases cS r'
  |int b=>cases aZ r'
  |str b=>cases bW r'
 |.lst xs,d',v,n,n',r,r'=>by
  obtain⟨a,vs,rfl,q,rr⟩:=bO r;cases d' with
  |lst ys=>
   obtain⟨a',gb,e,q',bz⟩:=bO r';cases e;have:=I.list_inj q q';subst this;unfold Az at n n';rw[wU!]
  |tup ys=>
   obtain⟨a',gb,e,q',bz⟩:=bN r';cases e;exact(tF I q' q).elim
  |fn b=>unfold Az at n';cases n'
  |dk b=>unfold Az at n';cases n'
  |non=>cases dR r'
  |bl b=>cases cS r'
  |int b=>cases aZ r'
  |str b=>cases bW r'
 |.fn a,d',v,n,n',r,r'=>by unfold Az at n;cases n
 |.dk a,d',v,n,n',r,r'=>by unfold Az at n;cases n
theorem tV(I:d!):∀(ds es:b!) (vs:m_),Bv ds=true->Bv es=true->Al X.K H ds vs->Al X.K H es vs->ds=es
 |[],es,vs,n,n',r,r'=>by
  cases cG r;cases es with
  |nil=>rfl
  |cons e es=>obtain⟨v,t,z,_⟩:=bF r';cases z
 |d::ds,es,vs,n,n',r,r'=>by
  obtain⟨v,t,rfl,r1,r2⟩:=bF r;cases es with
  |nil=>cases cG r'
  |cons e es=>
   obtain⟨v',t',z,w6,w9⟩:=bF r';cases z;unfold Bv at n n';rw[JD]at n n';rw[zN I d e v n.1 n'.1 r1 w6,tV I ds es t n.2 n'.2 r2 w9]
end
mutual
theorem pM:∀d:D,Az d=true->Eh d d=true
 |.non,_=>by simp[Eh]
 |.bl b,_=>by simp[Eh]
 |.int i,_=>by simp[Eh]
 |.str s,_=>by simp[Eh]
 |.tup xs,h=>by unfold Eh;exact qW xs wU_
 |.lst xs,h=>by unfold Eh;exact qW xs wU_
 |.fn a,h=>by simp[Az]at h
 |.dk k,h=>by simp[Az]at h
theorem qW:∀ds:List D,Bv ds=true->Ij ds ds=true
 |[],_=>by simp[Ij]
 |d::ds,h=>by
  unfold Bv at h;rw[JD]at h;unfold Ij;rw[pM d h.1,qW ds h.2];rfl
end
def a2t(I:d!)(d d':D)(v:V)(n:b4!)(n':e8_)(r:dV_)(r':Aq X.K H d' v):Eh d d'=true:=by rw[<-zN I d d' v n n' r r'];exact pM d n
def iC(A:x8!):A.in1.units=A.units+1:=rfl
def mE:∀(xs ys:b!),i_=ah!->((List.range i_).all λj=>Eh (xs.getD j .non) (ys.getD j .non))=Ij xs ys
 |[],[],_=>rfl
 |x::xs,y::ys,h=>by
  have ih:=mE xs ys jW!;unfold Ij;rw[IH,List.range_succ_eq_map,OD,<-ih,List.all_map];rfl
 |[],_::_,h=>by simp at h
 |_::_,[],h=>by simp at h
def lZ:∀(xs ys:b!),i_≠ah!->Ij xs ys=false
 |[],[],h=>absurd rfl h
 |x::xs,y::ys,h=>by
  unfold Ij;rw[lZ xs ys jW!,RE]
 |[],_::_,_=>rfl
 |_::_,[],_=>rfl
def pH{ds es:b!}{us us':g_}(rd:g2!)(re:g2_)(rv:ek_)(az:Ax ws us')
  (h:∀(j:Nat) u u',us[j]?=some u->us'[j]?=some u'->SeqAt.EqAt A s u u' jW_):
  ∀j (J:j<jX!) (h2:j<oo_),SeqAt.EqAt A s co_[j] op![j] jW_:=λj J h2=>by
 have l1:j<aq_:=by simpa using J
 have l2:j<us'.length:=by simpa using h2
 exact h j _ _ (by simp[l1]) (by simp[l2])
def xF{ds es:b!}{A:x8!}(I:d!)(qa:jV_)(qb:Fy X.K H b ws)(rd:g2!)(re:g2_)(hu:an!)
  (h:jX_):SeqAt.RcAt A s F! dJ! (Ij ds es):=by
 obtain⟨us,rv,p1,_⟩:=I.tuple qa;obtain⟨us',az,p2,_⟩:=I.tuple qb;have J:=aI rd;have h2:=aI re;have h3:=ep_;have h4:=jZ_;have z:=SeqAt.RcAt.tuples (A:=A) (e:=jY_) p1 p2 hu jZ!;have e:wV_=Ij ds es:=by
  show"#."
  .rw[hl,Nat.min_self,<-hl,j0_,hl];simp
  .rw[j1!];have:(f_==ae!)=false:=by simpa using hl
   rw[this,RE]
 rw[e]at z;exact z
def a2y{ds es:b!}{A:x8!}(I:d!)(qa:oq_)(qb:Fh X.K H b ws)(rd:g2!)(re:g2_)(hu:an!)
  (h:jX_):SeqAt.RcAt A s F! dJ! (Ij ds es):=by
 show"!?";have h4:=jZ_;by_cases hl:f_=ae!
 .have z:=SeqAt.RcAt.lists (A:=A) (e:=jY_) p1.isList p2.isList nX! hu jZ!;rw[HY,<-h3,<-J,j0_]at z;exact z
 .rw[j1!];exact SeqAt.RcAt.lists_lengths p1.isList p2.isList wW! hu
def b8t(I:d!)(q:jV_):∃items,s.heap.IsTuple a items:=let⟨its,_,p,_⟩:=I.tuple q;⟨_,p⟩
def b3m(I:d!)(q:oq_):∃items,s.heap.IsList a items:=let⟨its,_,p,_⟩:=I.list q;⟨_,p.isList⟩
inductive RV(X:Cx)(H:Hp)(s:z6!):D->Value->Prop
 |non:RV X H s .non .none
 |bl (b:Bool):RV X H s bl! lO!
 |int (i:Int) (t:Tok):RV X H s ak_ dp_
 |str (x:Str) (t:Tok):RV X H s by_ fF!
 |tup {xs:b!} {a:xz!} {its:I!}:s.heap.IsTuple a its->RV X H s bw_ F!
 |lst {xs:b!} {a:xz!} {its:I!}:s.heap.IsList a its->RV X H s Q_ F!
def xB(I:d!)(n:b4!)(r:dV_)(ru:a3!):RV X H s d u:=by
 cases d with
 |non=>cases dR r;cases ru;exact .non
 |bl b=>cases cS r;cases ru;exact .bl b
 |int b=>cases aZ r;obtain⟨t,rfl⟩:=ru;exact .int b t
 |str b=>cases bW r;obtain⟨t,rfl⟩:=ru;exact .str b t
 |tup ys=>obtain⟨a,ws,rfl,q,_⟩:=bN r;cases ru;obtain⟨its,p⟩:=b8t I q;exact .tup p
 |lst ys=>obtain⟨a,ws,rfl,q,_⟩:=bO r;cases ru;obtain⟨its,p⟩:=b3m I q;exact .lst p
 |fn a=>unfold Az at n;cases n
 |dk a=>unfold Az at n;cases n
def mB(I:d!){A:x8!}(n:b4!)(n':e8_)(hu:an!)(r:dV_)(r':g5!)(ru:a3!)(a9:g5_)(hT:∀xs ys,d=.tup xs->d'=.tup ys->SeqAt.EqAt A s u u' dc!)(hL:∀xs ys,d=.lst xs->d'=.lst ys->SeqAt.EqAt A s u u' dc!):SeqAt.EqAt A s u u' dc!:=by
 show"!e"
 all_goals first|exact hT _ _ rfl rfl|exact hL _ _ rfl rfl|(unfold Eh;with_reducible first|exact .none_none|exact .same _|exact .none_bool _|exact .none_int _ _|exact .none_str _ _|exact .none_tuple ‹_› hu|exact .none_list ‹_› hu|exact .bool_none _|exact .bool_bool _ _|exact .bool_int _ _ _|exact .bool_str _ _ _|exact .bool_tuple _ ‹_› hu|exact .bool_list _ ‹_› hu|exact .int_none _ _|exact .int_bool _ _ _|exact .int_int _ _ _ _|exact .int_str _ _ _ _|exact .int_tuple _ _ ‹_› hu|exact .int_list _ _ ‹_› hu|exact .str_none _ _|exact .str_bool _ _ _|exact .str_int _ _ _ _|exact .str_str _ _ _ _|exact .str_tuple _ _ ‹_› hu|exact .str_list _ _ ‹_› hu|exact .tuple_none ‹_› hu|exact .tuple_bool _ ‹_› hu|exact .tuple_int _ _ ‹_› hu|exact .tuple_str _ _ ‹_› hu|exact .tuple_list ‹_› ‹_› hu|exact .list_none ‹_› hu|exact .list_bool _ ‹_› hu|exact .list_int _ _ ‹_› hu|exact .list_str _ _ ‹_› hu|exact .list_tuple ‹_› ‹_› hu)
def c6l(I:d!){A:x8!}(n:b4!)(n':e8_)(hu:an!)(r:dV_)(r':g5!)(ru:a3!)(a9:g5_)(hT:∀xs ys,d=.tup xs->d'=.tup ys->SeqAt.RcAt A s u u' dc!)(hL:∀xs ys,d=.lst xs->d'=.lst ys->SeqAt.RcAt A s u u' dc!):SeqAt.RcAt A s u u' dc!:=by
 show"!e"
 all_goals first|exact hT _ _ rfl rfl|exact hL _ _ rfl rfl|(unfold Eh;with_reducible first|exact .none_none|exact .same _|exact .none_bool _|exact .none_int _ _|exact .none_str _ _|exact .none_tuple ‹_› hu|exact .none_list ‹_› hu|exact .bool_none _|exact .bool_bool _ _|exact .bool_int _ _ _|exact .bool_str _ _ _|exact .bool_tuple _ ‹_› hu|exact .bool_list _ ‹_› hu|exact .int_none _ _|exact .int_bool _ _ _|exact .int_int _ _ _ _|exact .int_str _ _ _ _|exact .int_tuple _ _ ‹_› hu|exact .int_list _ _ ‹_› hu|exact .str_none _ _|exact .str_bool _ _ _|exact .str_int _ _ _ _|exact .str_str _ _ _ _|exact .str_tuple _ _ ‹_› hu|exact .str_list _ _ ‹_› hu|exact .tuple_none ‹_› hu|exact .tuple_bool _ ‹_› hu|exact .tuple_int _ _ ‹_› hu|exact .tuple_str _ _ ‹_› hu|exact .tuple_list ‹_› ‹_› hu|exact .list_none ‹_› hu|exact .list_bool _ ‹_› hu|exact .list_int _ _ ‹_› hu|exact .list_str _ _ ‹_› hu|exact .list_tuple ‹_› ‹_› hu)
mutual
theorem b9k(I:d!):∀(d d':D) (A:x8!) (v v':V) (u u':xT!),Az d=true->Az d'=true->A.units+Gx d<cLine->Aq X.K H d v->Aq X.K H d' v'->Bl v u->Bl v' u'->SeqAt.EqAt A s u u' dc!
 |.non,d',A,v,v',u,u',n,n',hu,r,r',ru,a9=>mB I n n' a! r r' ru a9 a0! a0!
 |.bl _,d',A,v,v',u,u',n,n',hu,r,r',ru,a9=>mB I n n' a! r r' ru a9 a0! a0!
 |.int _,d',A,v,v',u,u',n,n',hu,r,r',ru,a9=>mB I n n' a! r r' ru a9 a0! a0!
 |.str _,d',A,v,v',u,u',n,n',hu,r,r',ru,a9=>mB I n n' a! r r' ru a9 a0! a0!
 |.fn _,d',A,v,v',u,u',n,n',hu,r,r',ru,a9=>mB I n n' a! r r' ru a9 a0! a0!
 |.dk _,d',A,v,v',u,u',n,n',hu,r,r',ru,a9=>mB I n n' a! r r' ru a9 a0! a0!
 |.tup xs,d',A,v,v',u,u',n,n',hu,r,r',ru,a9=>mB I n n' a! r r' ru a9 (λ_ ys e e'=>by
  cases e;subst e';obtain⟨a,vs,rfl,q,rr⟩:=bN r;obtain⟨b,ws,rfl,q',bz⟩:=bN r';cases ru;cases a9;by_cases k9:a=b
  .subst k9;rw[wX!];exact .same _
  .unfold Az at n n';unfold Gx at hu;unfold Eh;exact .of_refs k9 (xF I q q' rr bz a! λus us' rv az=>kH I xs ys A.in1 vs ws us us' n n' e9_ rr bz rv az)) a0!
 |.lst xs,d',A,v,v',u,u',n,n',hu,r,r',ru,a9=>mB I n n' a! r r' ru a9 a0! (λ_ ys e e'=>by
  cases e;subst e';obtain⟨a,vs,rfl,q,rr⟩:=bO r;obtain⟨b,ws,rfl,q',bz⟩:=bO r';cases ru;cases a9;by_cases k9:a=b
  .subst k9;rw[wX!];exact .same _
  .unfold Az at n n';unfold Gx at hu;unfold Eh;exact .of_refs k9 (a2y I q q' rr bz a! λus us' rv az=>kH I xs ys A.in1 vs ws us us' n n' e9_ rr bz rv az))
theorem kH(I:d!):∀(ds es:b!) (A:x8!) (vs ws:m_) (us us':g_),Bv ds=true->Bv es=true->A.units+Dm ds<cLine->Al X.K H ds vs->Al X.K H es ws->Ax vs us->Ax ws us'->
  ∀(j:Nat) u u',us[j]?=some u->us'[j]?=some u'->SeqAt.EqAt A s u u' jW_
 |[],es,A,vs,ws,us,us',n,n',hu,r,r',rv,az,j,u,u',e,e'=>by
  cases cG r;cases rv;simp at e
 |d::ds,es,A,vs,ws,us,us',n,n',hu,r,r',rv,az,j,u,u',e,e'=>by
  obtain⟨v,t,rfl,r1,r2⟩:=bF r;cases es with
  |nil=>
   cases cG r';cases az;simp at e'
  |cons c es=>
   obtain⟨w,t',rfl,w6,w9⟩:=bF r';unfold Bv at n n';rw[JD]at n n';unfold Dm at hu;cases rv with
   |cons qe sj=>
    cases az with
    |cons WK WL=>
     cases j with
     |zero=>
      simp at e e';subst e e';exact b9k I d c A v w _ _ n.1 n'.1 a! r1 w6 qe WK
     |succ j=>
      exact kH I ds es A t t' _ _ n.2 n'.2 a! r2 w9 sj WL j u u' cI_ (by simpa using e')
end
def c6m(I:d!)(d d':D){A:x8!}(n:b4!)(n':e8_)(hu:wY_)(r:dV_)(r':g5!)(ru:a3!)(a9:g5_):SeqAt.RcAt A s u u' dc!:=
 c6l I n n' a! r r' ru a9 (λxs ys e e'=>by
  subst e e';obtain⟨a,vs,rfl,q,rr⟩:=bN r;obtain⟨b,ws,rfl,q',bz⟩:=bN r';cases ru;cases a9;unfold Az at n n';unfold Gx at hu;unfold Eh;exact xF I q q' rr bz a! λus us' rv az=>kH I xs ys A.in1 vs ws us us' n n' e9_ rr bz rv az) (λxs ys e e'=>by
  subst e e';obtain⟨a,vs,rfl,q,rr⟩:=bO r;obtain⟨b,ws,rfl,q',bz⟩:=bO r';cases ru;cases a9;unfold Az at n n';unfold Gx at hu;unfold Eh;exact a2y I q q' rr bz a! λus us' rv az=>kH I xs ys A.in1 vs ws us us' n n' e9_ rr bz rv az)
def BU(K:zY!):R2:=λx y H Q=>∃dx dy,Aq K H dx x/\Aq K H dy y/\Az dx=true/\Az dy=true/\Gx dx<=40/\Q (.bl (Eh dx dy)) H
def bZ(hu:an_):Gv X (compareOp .Eq) (BU X.K):=by intro Y s Z H x y v u Q I rx ry h;obtain⟨dx,dy,r1,r2,n1,n2,hd,q⟩:=h;exact c6m I dx dy n1 n2 a! r1 r2 rx ry X.prog X.w X.xe _ wZ!
def Bb:D->D->Option D:=λx y=>if Az x&&Az y&&decide (Gx x<=40)then some (.bl (Eh x y))else none
def cB{K:zY!}:Ic K (BU K) Bb:=by
 show"!1";unfold Bb at e;show"!8"
 .show"!m";cases e;exact wZ_
 .cases e
end
section
variable{X:Cx}{own:List Nat}{e a b c o i tg:Expr}{es:List Expr}{pos p2:Pos}{f fa fb fc fe:Ad->Option D}{fs fi:Ad->Option (List D)}{ft fu:Ad->Option Bool}
def Bm(g g':aY_)(fa fb fc:e_):Ad->Option D:=λρ=>(eY!).bind λx=>(jx_).bind λy=>(g x y).bind λz=>match z with
 |.bl true=>(fc ρ).bind λu=>g' y u
 |.bl false=>some ab!
 |_=>none
def vN{op eh:CmpOp}{r r':R2}{g g':aY_}(ho:bT!)(hg:dQ_)(d9:iD!)(sk:Ic X.K r' g')(ha:U!)(hb:ct_)(hc:DE X own c fc)
  (hm:iD_:=by with_unfolding_all rfl):DE X own iE! w0!:=
 eI (b6l ho d9 ha.ok hb.ok hc.ok hm) λZ G H Q ρ d er e k=>by
  obtain⟨x,e1,e⟩:=HN.mp e;obtain⟨y,e2,e⟩:=HN.mp e;obtain⟨z,e3,e⟩:=HN.mp e;refine w1!;have ng:=s1.trans gP_;cases z<;>first|cases e|skip
  rename_i bb;cases cS r3;refine w1_;cases bb with
  |true=>
   obtain⟨u,e4,e⟩:=HN.mp e;exact kD ⟨G3,ρ,u,er.grow ng,e4,λq G4 H4 s4 r4=>sk s4.sub w2! r4 e λv G5 H5 s5 r5=>k v G5 H5 w2_ r5⟩
  |false=>
   cases e;exact kW (k _ G3 H3 ng Aq.bl)
def AB(f:e_):Ad->Option D:=λρ=>(ah_).bind λd=>match d with|.int i=>some (.int (-i))|_=>none
def c9g(h:U!):DE X own (.UnaryOp .USub a pos) (AB fa):=
 eI (d0u c5y h.ok) λZ G H Q ρ d er e k=>by
  obtain⟨x,e1,e⟩:=HN.mp e;cases x<;>first|cases e|skip
  refine e1_;cases aZ r1;exact⟨_,rfl,k _ G1 H1 s1 Aq.int⟩
def Kh:D->Bool
 |.non=>true
 |.bl _=>true
 |.int _=>true
 |.str _=>true
 |_=>false
def a4s{K:zY!}{H:Hp}(h:Kh d=true)(r:gM!):Mq v=true:=by
 cases d<;>first
  |(cases h;done)
  |(cases dR r;rfl)
  |(cases cS r;rfl)
  |(cases aZ r;rfl)
  |(cases bW r;rfl)
def c3u{K:zY!}{H:Hp}(h:Kh d=true)(h':Kh d'=true)(r:gM!)(r':Aq K H d' v'):Xj v v'=Eh d d':=by
 cases d<;>first
  |(cases h;done)
  |skip
 all_goals (cases d'<;>first
  |(cases h';done)
  |skip)
 all_goals first
  |(cases dR r)
  |(cases cS r)
  |(cases aZ r)
  |(cases bW r)
 all_goals first
  |(cases dR r')
  |(cases cS r')
  |(cases aZ r')
  |(cases bW r')
 all_goals simp[Xj,Eh]
def a4u{K:zY!}{H:Hp}:∀{ds:b!} {vs:m_},ds.all Kh=true->Al K H ds vs->vs.all Mq=true
 |[],vs,_,r=>by cases cG r;rfl
 |d::ds,vs,h,r=>by
  obtain⟨v,t,rfl,r1,r2⟩:=bF r;rw[OD,JD]at h;rw[OD,JD];exact⟨a4s h.1 r1,a4u h.2 r2⟩
def a4t{K:zY!}{H:Hp}(hx:Kh x=true)(rx:Aq K H x v):∀{ds:b!} {vs:m_},ds.all Kh=true->Al K H ds vs->DC v vs=ds.any λd=>Eh d x
 |[],vs,_,r=>by cases cG r;rfl
 |d::ds,vs,h,r=>by
  obtain⟨w,t,rfl,r1,r2⟩:=bF r;rw[OD,JD]at h;have ih:=a4t hx rx h.2 r2;unfold DC at ih ⊢;rw[NC,NC,ih,c3u h.1 hx r1 rx]
def Zw:D->Option aI_
 |.tup xs=>some xs
 |.lst xs=>some xs
 |_=>none
def Ug(neg:Bool):D->D->Option D:=λx y=>(Zw y).bind λds=>if Kh x&&ds.all Kh then some w3_ else none
def d1e{K:zY!}{neg:Bool}:Ic K (EU K neg) (Ug neg):=by
 show"!1";show"!G"
 .rename_i h;rw[JD]at h;cases e;have fin:∀{p:xz!} {vs:m_},(Fh K H p vs\/Fy K H p vs)->Al K G ds vs->y=V.ref p->EU K neg x y H Q:=λ{p vs} q r ey=>by
   refine⟨p,vs,ey,q,a4s h.1 rx,a4u h.2 r,?_⟩;rw[a4t h.1 rx h.2 r];show"!k"
  cases dy<;>first|(cases e1;done)|skip
  .cases e1;obtain⟨p,vs,ey,q,r⟩:=bN ry;exact fin (.inr j3_) r ey
  .cases e1;obtain⟨p,vs,ey,q,r⟩:=bO ry;exact fin (.inl (sub.seq q)) r ey
 .cases e
structure Ts(X:Cx)(x:Str)(bu:aK_):Prop where
 ex:∃(ad:xz!) (h1:nH_) (vs:List w4_),X.mg x=some j4!/\os!=false/\(∀h:Heap,X.K.In h->h.DictOf (mixKind X.prog X.w) ad vs)/\KV h1 vs/\
  (∀y,Mz h1 dW_=none↔bu.lookup y=none)/\∀y d,bu.lookup y=some d->∃v,Mz h1 dW_=some v/\∀H,Aq X.K H d v
def Yd(bu:aK_)(neg:Bool)(f:e_):Ad->Option D:=λρ=>(ah_).bind λd=>match d with|.str y=>some (.bl (if neg then !(os_).isSome else(os_).isSome))|_=>none
def Vg(bu:aK_)(f:e_):Ad->Option D:=λρ=>(ah_).bind λd=>match d with|.str y=>bu.lookup y|_=>none
def c4h{x:Str}{bu:aK_}(hd:Ts X x bu)(hg:J!)(ha:U!)(cm:CL a)(a8:y_:=by decide):DE X own (.Subscript db! a pos) (Vg bu fa):=by
 show"#C";refine eI (t:=λZ H Q=>tD X.K own fa Z H λv H1=>∃y u,v=.str y/\Mz h1 dW_=some u/\Q u H1) w6_ λZ G H Q ρ d er e k=>?_
 .refine c1c PySem.F.slot_dict_getitem.lookup cm (iB I hg jx (cX w7! λv s1 ⟨y,H1,I1,r1,z,u,hz,hu,q1⟩=>?_) a8);subst hz;have dd:=xa _ I1.kIn;obtain⟨w',hw,az⟩:=Nt.some_of (v:=u) (o:=valueAt vs ot!) (by rw[<-hu];exact xb.val ot!);have ty:s1.TypeIs j4! "dict":=by
   obtain⟨o,es,ep,J,h2,_⟩:=dd;exact⟨o,J,h2.1⟩
  exact⟨ty,wpAny_getItem_of (knd:=w8!) (k:=ot_) w8_ dd.mapOf hw ⟨u,H1,I1.tok _,az,q1⟩⟩
 .obtain⟨x,e1,e⟩:=HN.mp e;cases x<;>first|(cases e;done)|skip
  rename_i y;obtain⟨v,hv,hr⟩:=hs y d e;refine⟨G,ρ,_,er,e1,λw G1 H1 s1 r1=>?_⟩;cases bW r1;exact⟨y,v,rfl,hv,k _ G1 H1 s1 (hr G1)⟩
def Ok(P:z7!)(w:yO!)(K:zY!)(mg:x!)(base:Heap)(k:Nat)(x:Str)(ps:o!)(g:ac_):Prop:=
 ∃ag fd,Fk P w K mg base Pd k ag fd ps jV!/\Ex K fd ps []/\mg x=some be!/\W.keepIn K be!=true
def aP{k:Nat}{ps:o!}{g:ac_}{x:Str}(F:w9!)(hr:bn_)(hg:J!)(ha:jC!)(av:wg!)
  (hn:wf_:=by rfl)(a8:y_:=by decide)(he:ag!:=by rfl)(ax:aF!:=by rfl):
  DE X own a9_ nV_:=by
 show"#%";exact c4i J hr hg h3 h4 h2 ha hn av a8 he ax
def Zd(P:z7!)(w:yO!)(K:zY!)(mg:x!)(base:Heap)(k n:Nat)(bu:ou!):Prop:=
 ∀ag g,bu ag=some g->∃fd ps,R_=n/\Fk P w K mg base Pd k ag fd ps jV!/\Ex K fd ps []/\W.keepIn K be!=true
def Oj(bu:ou!)(i:Nat)(fs:am!):Ad->Option D:=λρ=>(Aa i ρ).bind λd=>match d with|.fn ag=>(bu ag).bind λg=>(eZ!).bind g|_=>none
def b9y{k n j:Nat}{bu:ou!}{x:Str}(F:Zd X.prog X.w X.K X.mg X.base k n bu)(hr:bn_)(ha:jC!)(av:wg_)
  (hj:j∉own:=by decide)(hN:uU!:=by rfl)(hv:cf_:=by first|exact Or.inl rfl|exact Or.inr a_|exact Or.inr bd_)(a8:y_:=by decide)(bv:cg!:=by decide)
  (he:ag!:=by rfl)(ax:aF!:=by rfl):
  DE X own a9_ (Oj bu j fs):=⟨by
 intro Y s Z H Q I h;obtain⟨G,ρ,d,er,e1,kk⟩:=h;obtain⟨z,e2,e1⟩:=HN.mp e1;cases z<;>first|(cases e1;done)|skip
 rename_i ag;obtain⟨g,e3,e1⟩:=HN.mp e1;obtain⟨ds,e4,e1⟩:=HN.mp e1;obtain⟨fd,ps,li,F1,F2,F3⟩:=F ag g e3;obtain⟨v,J,h2⟩:=er.at_ j _ (join_some e2) hj;cases fM h2;refine MD (cX (jX hN hv a8 bv Y s Z H (λu H'=>u=.ref ag/\H'=H) I ⟨_,J,rfl,rfl⟩) λu s1 ⟨y,H1,I1,r1,hy,hH⟩=>?_);subst hy hH;cases r1;refine W.callWith_K (h₀:=X.base) I1.ok.mod.kin F3 (cX (ha.ok pos Y s1 Z H1 _ I1 ⟨G,ρ,ds,er,e4,λvs G2 H2 s2 r2=>(?_:(λvs H2=>Xp X.K ps.length g vs H2 Q E0) vs H2)⟩) λus s2 ⟨vs,H2,I2,r2,q2⟩=>s9!) he ax
 .exact⟨by rw[<-aI r2,av ρ ds e4,li],G2,ds,d,s2.sub,r2,e1,λv G3 H3 s3 r3=>kk v G3 H3 gP_ r3⟩
 .exact a6n (dvs:=[]) (ds:=[]) F1 hr F2 .nil uB I2 r2 (by rw[JH];exact q2)⟩
def DR(x:Str):It:=⟨xa_,λi H v H'=>H'=H/\∃c,x.cps[i]?=some c/\v=.str at!,xc!⟩
def Zy(f:e_):Ad->Option aI_:=λρ=>(ah_).bind λd=>match d with|.str x=>some xb!|_=>none
def c3i{K:zY!}{G1:Hp}{x:Str}:Yk K (DR x) xb! G1:=by intro i G' H' s1 s2;refine⟨dT_,λhi=>by rw[IP,KG]at hi;exact OP hi.symm⟩;rw[JN]at hd;obtain⟨c,hc,rfl⟩:=IA.mp hd;rw[NY]at hc;refine xd!;obtain⟨e1,c',b7,e2⟩:=hy;subst e1;rw[hc]at b7;cases b7;subst e2;exact⟨G',jL_,Aq.str⟩
def a2d{K:zY!}{x:Str}{St':dx_}(hd:xc_)
  (W:∀A':Around,ov!=none->Walks P w A' it [it] [it] x.cps.size (SignAt x) St')(WM:∀(A:x8!) (i:Nat) (s:z6!) (Q:l_) (E:l_),St' i s.heap->Q bS! s->wpAny C! A (pyIter bS!) Q E s):
  Sh P w K g7! (DR x) [it] it xd_ where
 mem:=by simp
 obj:=λi h st b hb=>by
  have e:b=it:=by simpa using hb
  subst e;exact hd i h st.2
 keep:=λi h h' st k=>⟨st.1,by
  have Wd:=W callerA rfl;exact Wd.frame i h h' st.2 λb hb o e=>k b hb o e⟩
 item:=by
  show"!0";show"!3";refine(W X.A a3_).item i s _ _ hg st.2 λv h' tk hv σ kk=>?_;obtain⟨cc,u,gh,rfl⟩:=hv;show"!Z";exact⟨_,rfl,HP ⟨.str ⟨#[cc]⟩,H,I1,⟨u,rfl⟩,⟨rfl,cc,gh,rfl⟩,⟨hg,σ⟩,l9_⟩⟩
 done:=by
  show"!0";show"!3";show"#?";exact(W X.A a3_).done s _ _ st.2 λh' tk kk=>⟨rfl,I.turned mc! f0 f1 f3 f4 f5⟩
 self:=λA i s Q E st h=>WM A i s Q E st.2 h
def c6v{tl:TE}(hl:PE X a tl):PI X g7! a (λZ H R=>tl Z H λv H1=>∃x,v=.str x/\R (DR x) H1):=by
 intro Y s Z H R I h;refine cX rJ_ λv s1 ⟨u,H1,I1,r1,x,hx,q⟩=>?_;subst hx;obtain⟨t,rfl⟩:=r1;have SY:∀(ty:String) (i:Nat) (h:Heap),h.IsStrIter s1.heap.objs.size ty x t i->∃o,h.get? y!=some o/\∀v,o.data≠.cell v:=λty i h st=>by
  show"!y"
 have fin:∀(ob:Obj) (St':dx_),Sh X.prog X.w X.K g7! (DR x) [y!] s1.heap.objs.size xd_->St' 0 (s1.heap.push ob)->
   DN X Y Z g7! R (.ref y!) {s1 with heap:=s1.heap.push ob}:=λob St' T st=>by
  refine⟨y!,[y!],_,_,H1,rfl,mc_,T,⟨JK _,st⟩,ci_,q⟩;have e:b=y!:=by simpa using hb
  show"!g"
 cases ha:x.cps.all (·<128)with
 |false=>
  exact wpAny_pyIter_wide ha (fin _ _ (a2d xf_ (λA' hA=>Walks.strWide hA _ x t) λA i s Q E st h=>wpAny_pyIter_striter_wide st h) eq!)
 |true=>
  exact wpAny_pyIter_ascii ha (fin _ _ (a2d xf_ (λA' hA=>Walks.strAscii hA _ x t) λA i s Q E st h=>wpAny_pyIter_striter_ascii st h) eq!)
def c9b(h:U!):DI X own g7! a (Zy fa):=a5c (c6v h.ok) λZ G H R ρ ds er e k=>by
 obtain⟨d,e1,e2⟩:=HN.mp e;cases d with
 |str x=>
  cases e2;refine e1_;cases bW r1;exact⟨x,rfl,k _ G1 H1 s1 c3i⟩
 |_=>cases e2
def wP:∀{ys:o!} {us:g_},Ax xh! us->StrsAre us ys
 |[],_,.nil=>.nil
 |y::ys,_,.cons r t=>by
  obtain⟨k,rfl⟩:=r;exact .cons y k (wP t)
def BL(K:zY!):V->List V->Hp->VK->Prop:=λx vs H Q=>∃(z:Str) (p:xz!) (ys:o!),x=.str z/\vs=jc!/\Fh K H p xh!/\(xi!).sum+ah!*i7!<=16777216/\Q xi_ H
def c2v:GM X "str.join" (BL X.K):=by intro Y s Z H x xs v us Q I rx r h;obtain⟨z,p,ys,rfl,rfl,hq,hz,q⟩:=h;obtain⟨t,rfl⟩:=rx;obtain⟨u,rfl,r1⟩:=mT r;cases r1;obtain⟨its,rv,pl,_⟩:=I.list hq;exact join_list pl.isList (by simpa using wP rv) hz λt' k=>⟨.str _,H,aU_,L_,q⟩
def Sr:List D->Option (List Str)
 |[]=>some []
 |.str x::r=>(Sr r).map (x::·)
 |_=>none
def a2s{K:zY!}{H:Hp}:∀{ds:b!} {vs:m_} {ys:o!},Al K H ds vs->Sr ds=some ys->vs=ys.map V.str
 |[],vs,ys,r,e=>by cases cG r;cases e;rfl
 |d::ds,vs,ys,r,e=>by
  obtain⟨v,t,rfl,r1,r2⟩:=bF r;cases d<;>first|(cases e;done)|skip
  obtain⟨WN,e1,rfl⟩:=IA.mp e;cases bW r1;rw[a2s r2 e1];rfl
def Ve:D->D->Option D
 |.str z,.lst xs=>(Sr xs).bind λys=>if(xi!).sum+ah!*i7!<=big then some xi_ else none
 |_,_=>none
def Ww(fo fa:e_):Ad->Option D:=λρ=>(fo ρ).bind λx=>(eY!).bind λy=>Ve x y
def c4f{fo:e_}{ay ai:Pos}(ho:DE X own o fo)(ha:U!)
  (ij:attributeBase o "join" X.env dw_=eval o X.env:=by rfl)
  (ik:((xk!).all c3_&&(c4!).all c4_
   &&decide xk_)=true:=by rfl)
  (io:eO_:=by rfl) (hs:n8!:=by rfl) (ip:jT!:=by rfl):
  DE X own (.Call (.Attribute o "join" ay) [a] [] ai) (Ww fo fa):=
 eI (a3e PySem.F.plainAttrs_str PySem.F.slot_str_join PySem.F.type_str_join c2v ho.ok (dA ha.ok fP hs) ij ik io hs ip) λZ G H Q ρ d er e k=>by
  show"!<";obtain⟨y,e2,e⟩:=HN.mp e;unfold Ve at e;show"!8"
  .obtain⟨ys,e3,e⟩:=HN.mp e;show"!8"
   .show"!E";refine e1_;cases bW r1;refine⟨rfl,G1,ρ,_,c8!,e2,xl!⟩;obtain⟨p,vs,rfl,q,rr⟩:=bO r2;have:=a2s rr e3;subst this;exact⟨_,p,ys,rfl,rfl,s2.sub.seq q,JM hl c!,k _ G2 H2 c9! Aq.str⟩
   .cases e
  .cases e
end
section
variable{prog:z7!}{w:yO!}{A:x8!}{E:Value->Shared->Prop}{s:z6!}
def zZ{n:Nat}{xs:I!}{Q:l_}(g1:xl_)(g2:xm_)(g3:xs[n]?=some v)
  (k:∀h',h'.IsTupleIter jt tt cy_->Heap.SameBut jt s.heap h'->Q v {s with heap:=h'}):wpAny o_ A xn! Q E s:=by
 show"!:";show"!X";refine HM (OT eo ed b_ (HP ⟨v,rfl,HP (k _ ?_ dY!)⟩));exact⟨_,LF _ eo (NI (MF ed _)),(xq_).trans ec,by rw[MF ed];simp[rawInt]⟩
def uH{n:Nat}{xs:I!}{Q:l_}(hh:bo_)(g1:xl_)(g2:xm_)(g3:xs[n]?=none)
  (k:∀h' e,Heap.ExtBut jt s.heap h'->(∃o,h'.get? e=some o/\o.cls=.type "StopIteration")->E Y! {s with heap:=h'}):wpAny o_ A xn! Q E s:=by
 show"!:";show"!X";refine HM (LS (HM (OT eo ed b_ ?_)));refine HM ?_;simp only[newExc,newTuple];refine HM (KY ?_ g9!);refine HM (m:=xr!) (wpAny_of_eq (a:=ce_) xr_ ?_);refine KY ?_ g9!;simp only[raiseNew];refine HM xs_
 first|rw[xs!]|rw[hh]
 refine HM xt!;exact k _ _ xu! j6!
def bX{h h':Heap}{n:Nat}(x:h.IsTupleIter aa tt n)(hs:Heap.ExtBut bb h h')(ne:aa≠bb):h'.IsTupleIter aa tt n:=let⟨ob,eo,r⟩:=x;⟨ob,hs _ _ ne eo,r⟩
def a5u{TI TO:xz!}{k1 k2:Nat}{xs ys:I!}{Q:l_}(D:j6_)
  (gz:j7!)(gI:j7_)(gO:j8!)
  (g1:j8_)(g2:j9!)(g8:g9_)(iw:ha!)(gx:xv!)(gy:xv_)
  (kk:∀h',IsZip h' z TI TO (rawInt g!)->IsPair h' TO x y->h'.IsTupleIter i1 l1 (k1+1)->h'.IsTupleIter i2 l2 (k2+1)->IsPair h' s.heap.objs.size x y->
   j9_->Q bl_ {s with heap:=h'}):
  wpAny o_ A xw! xw_ E s:=by
 show"!p";show"!A";refine HM xA!
 replace lj:IsZip J z TI TO .ellipsis:=lj
 refine HM ?_;simp only[QS,QY,MO,PH];refine HM ka!;refine HM xC_;have sm:IsPair h2 TO p q:=bn.extBut _ _ D.TOi1 xD!;refine HM xD_;refine HM xE_
 replace u8:IsPair h3 TO x q:=u8
 refine HM (OK O_);refine HM ka!;refine HM (zZ xF! xG! gy λh4 WO jm=>HP ?_);have TB:IsPair h4 TO x q:=jm.extBut _ _ D.TOi2 u8;refine HM (LV TB rfl ?_);refine HM (RT TB λh5 u9 ll=>?_)
 replace u9:IsPair h5 TO x y:=u9
 refine HM (OK (HP O_));refine HM (LV u9 rfl ?_);refine HM (SA ?_);have sz:kb!=g!:=by rw[ll.1,jm.1,df.1,bn.1,b9.1]
 have TC:IsZip h5 z TI TO .ellipsis:=ll.extBut _ _ D.TOz.symm (jm.extBut _ _ D.i2z.symm xH_);have WQ:∀c ob,c≠z->c≠TO->c≠i1->c≠i2->s.heap.get? c=some ob->h5.get? c=some ob:=λc ob c1 c2 c3 c4 e=>ll.extBut _ _ c2 (jm.extBut _ _ c4 (df.extBut _ _ c2 (bn.extBut _ _ c3 (b9.extBut _ _ c1 e))));have WR:h5.IsTupleIter i1 l1 (k1+1):=bX (bX (bX SZ df.extBut D.TOi1.symm) jm.extBut D.i12) ll.extBut D.TOi1.symm;have WU:h5.IsTupleIter i2 l2 (k2+1):=bX WO ll.extBut D.TOi2.symm;have TD:z<kb!:=IS TC;refine HM ?_;unfold Builtin.SmallTypes.ownedTupleHandOut;have WV:IsZip (h5.push {cls:=.type "tuple",data:=.seq #[x,y]}) z TI TO .ellipsis:=HU _ TC;refine HM (LJ WV b_ λh7 xh TH=>?_)
 replace xh:IsZip h7 z TI TO (rawInt kb!):=xh
 refine LJ xh b_ λh8 va TJ=>?_
 replace va:IsZip h8 z TI TO (rawInt kb!):=va
 have up:∀c ob,c≠z->h5.get? c=some ob->h8.get? c=some ob:=λc ob c1 e=>TJ.extBut _ _ c1 (TH.extBut _ _ c1 (HU _ e));have TK:IsPair h8 h5.objs.size x y:=TJ.extBut _ _ (LO TD) (TH.extBut _ _ (LO TD) hb!);rw[sz]at va TK;refine HP oC!;rw[sz];obtain⟨WW,WX,r1⟩:=WR;obtain⟨WY,WZ,r2⟩:=WU;exact kk h8 va (up _ _ D.TOz u9) ⟨WW,up _ _ D.i1z WX,r1⟩ ⟨WY,up _ _ D.i2z WZ,r2⟩ TK λc ob c1 c2 c3 c4 e=>up c ob c1 (WQ c ob c1 c2 c3 c4 e)
def b1o{TI TO:xz!}{k1 k2:Nat}{xs ys:I!}{Q:Fin->Shared->Prop}(hh:bo_)(D:j6_)
  (gz:j7!)(gI:j7_)(gO:j8!)
  (g1:j8_)(g2:j9!)(g8:g9_)(iw:ha!)(ge:xI_)
  (kk:∀h' e,j9_->(∃ob,h'.get? e=some ob/\ob.cls=.type "StopIteration")->E Y! {s with heap:=h'}):
  wpAny o_ A xw! Q E s:=by
 show"!p";show"!A";refine HM xA!
 replace lj:IsZip J z TI TO .ellipsis:=lj
 refine HM ?_;simp only[QS,QY,MO,PH];refine HM ka!;cases gx:xs[k1]? with
 |none=>
  refine HM (uH hh xB_ xC! gx λh2 e bn he=>?_);obtain⟨oe,nh,sv⟩:=he;have TL:IsZip h2 z TI TO .ellipsis:=bn _ _ D.i1z.symm lj;have xi:e≠z:=λx=>by subst x;rw[TL]at nh;cases nh;simp at sv
  refine LJ TL b_ λh3 _ df=>kk h3 e (λc ob c1 _ c3 _ x=>df.extBut _ _ c1 (bn _ _ c3 xJ!)) ⟨oe,df.extBut _ _ xi nh,sv⟩
 |some x=>
  have gy:ys[k2]?=none:=by
   obtain h|h:=ge
   .rw[gx]at h;cases h
   .exact h
  refine HM xC_;have sm:IsPair h2 TO p q:=bn.extBut _ _ D.TOi1 xD!;refine HM xD_;refine HM xE_;refine HM (OK O_);refine HM ka!;refine HM (uH hh xF! xG! gy λh4 e jm he=>?_);obtain⟨oe,nh,sv⟩:=he;have TM:IsZip h4 z TI TO .ellipsis:=jm _ _ D.i2z.symm xH_;have xi:e≠z:=λx=>by subst x;rw[TM]at nh;cases nh;simp at sv
  refine LJ TM b_ λh5 _ ll=>kk h5 e (λc ob c1 c2 c3 c4 x=>ll.extBut _ _ c1 (jm _ _ c4 (df.extBut _ _ c2 (bn.extBut _ _ c3 xJ!)))) ⟨oe,ll.extBut _ _ xi nh,sv⟩
def a6s{TI TO:xz!}{k1 k2:Nat}{xs ys:I!}{p:xT!}{Q:cA_}(D:j6_)
  (gz:j7!)(gI:j7_)(gO:j8!)
  (g1:j8_)(g2:j9!)(g8:g9_)(iw:ha!)(gx:xv!)(gy:xv_)
  (kk:∀h',IsZip h' z TI TO (rawInt g!)->IsPair h' TO x y->h'.IsTupleIter i1 l1 (k1+1)->h'.IsTupleIter i2 l2 (k2+1)->IsPair h' s.heap.objs.size x y->
   j9_->Q (some bl_) {s with heap:=h'}):
  wpAny o_ A (pyNext ha_) Q E s:=by
 have gT:s.TypeIs ha_ "zip":=xL!;unfold pyNext;exact HM (ON (JZ (name:=fb!) gT RQ (JR RQ gT xK_
  (a5u D gz gI gO g1 g2 g8 iw gx gy λh' a1 a2 a3 a4 a5 a6=>HP (kk h' a1 a2 a3 a4 a5 a6)) xL_)))
def vZ{TI TO:xz!}{k1 k2:Nat}{xs ys:I!}{p:xT!}{Q:cA_}(hh:bo_)(D:j6_)
  (gz:j7!)(gI:j7_)(gO:j8!)
  (g1:j8_)(g2:j9!)(g8:g9_)(iw:ha!)(ge:xI_)
  (kk:∀h',j9_->Q none {s with heap:=h'}):wpAny o_ A (pyNext ha_) Q E s:=by
 have gT:s.TypeIs ha_ "zip":=xL!;unfold pyNext;refine HM (ON (JZ (name:=fb!) gT RQ (JR RQ gT xK_
  (b1o hh D gz gI gO g1 g2 g8 iw ge λh' e hk he=>?_) xL_)))
 obtain⟨ob,ho,hc⟩:=he;exact HM (wpAny_isInstance (T:=oD!) (b:=true) ⟨ob,ho,hc⟩ isSubtype_stop (HP (kk _ hk)))
abbrev CU(h:Heap)(l1:xz!):Heap:=h.push {cls:=.type "tuple_iterator",data:=.fields #[.ref l1,.int 0 0]}
abbrev CT(h:Heap)(l1 l2:xz!):Heap:=(CU h l1).push {cls:=.type "tuple_iterator",data:=.fields #[.ref l2,.int 0 0]}
abbrev CS(h:Heap)(l1 l2:xz!):Heap:=(CT h l1 l2).push {cls:=.type "tuple",data:=.seq #[.ref bR!,.ref (CU h l1).objs.size]}
abbrev CQ(h:Heap)(l1 l2:xz!):Heap:=(CS h l1 l2).push {cls:=.type "tuple",data:=.seq #[.none,.none]}
abbrev AL(h:Heap)(l1 l2:xz!):Heap:=(CQ h l1 l2).push {cls:=.type "zip",data:=.fields #[.none,.bool false,.bool false,.ref (CT h l1 l2).objs.size,.ref (CS h l1 l2).objs.size]}
def a7q(l1 l2:xz!)(xs ys:I!):
  Meets (Builtin.«zip.__new__» ⟨[.type "zip",.ref l1,.ref l2],[]⟩) (λ_ R s=>s.heap.IsTuple l1 xs/\s.heap.IsTuple l2 ys/\R (.ok (.ret (.ref (oD_).objs.size))) {s with heap:=AL s.heap l1 l2}):=
 .of_wp λprog w A R s h=>by
  obtain⟨hp,g,d,tk,os⟩:=s;obtain⟨g8,iw,h⟩:=h;have TN:=sub_zip;have W3:Heap.IsTuple (Shared.heap fd!) l1 xs:=g8;have W4:Heap.IsTuple (Shared.heap ⟨hp.push {cls:=.type "tuple_iterator",data:=.fields #[.ref l1,.int 0 0]},g,d,tk,os⟩) l2 ys:=let⟨ob,eo,r⟩:=iw;⟨ob,HU _ eo,r⟩
  wp_walk using wpAny_pyIter_tuple W3,wpAny_pyIter_tuple W4
  exact⟨_,rfl,h⟩
def c0m{xs ys:I!}{Q:l_}(g8:g9_)(iw:ha!)
  (kk:∀h',IsZip h' (g!+4) (g!+2) (g!+3) .none->IsPair h' (g!+2) bl_ (.ref ac!)->
   IsPair h' (g!+3) .none .none->h'.IsTupleIter s.heap.objs.size l1 0->h'.IsTupleIter ac! l2 0->(∀c ob,s.heap.get? c=some ob->h'.get? c=some ob)->Q (.ref (g!+4)) {s with heap:=h'}):
  wpAny o_ A (call oE! [.ref l1,.ref l2]) Q E s:=by
 refine callType_new F.called_zip c! (F.typeCall_zip_2 _ _) (F.newCall_zip_2 _ _) (λobj=>F.args_object_init_3 obj _ _) F.entry_zip_new (a7q l1 l2 xs ys) ⟨g8,iw,?_⟩;have z1:(xO_).objs.size=g!+1:=NM ..;have z2:(xN!).objs.size=g!+2:=by rw[NM,z1]
 have z3:(xN_).objs.size=g!+3:=by rw[NM,z2]
 have z4:(oD_).objs.size=g!+4:=by rw[NM,z3]
 have y5:(hb_).get? (oD_).objs.size=some _:=IK _ rfl;have y4:(hb_).get? (xN_).objs.size=some _:=HU _ hb!;have y3:(hb_).get? (xN!).objs.size=some _:=HU _ oE_;have y2:(hb_).get? (xO_).objs.size=some _:=HU _ (HU _ oE_);have y1:(hb_).get? g!=some _:=HU _ (HU _ (HU _ oE_));show _/\_;rw[z2,z3,z4]at y5;rw[z1,z2]at y3;rw[z3]at y4;rw[z1]at y2;rw[z4];exact⟨⟨_,y5,rfl⟩,kk _ y5 y3 y4 ⟨_,y1,rfl,rfl⟩ ⟨_,y2,rfl,rfl⟩ λc ob x=>HU _ (HU _ (HU _ (HU _ (HU _ x))))⟩
end
def DQ(K:zY!)(a b:xz!):It:=
 ⟨λi H=>∃xs ys x y,Fy K H a xs/\Fy K H b ys/\xs[i]?=some x/\ys[i]?=some y,
   λi H v H'=>∃T,v=.ref T/\H T=none/\∀xs ys,Fy K H a xs->Fy K H b ys->∃x y,xs[i]?=some x/\ys[i]?=some y/\H'=upd H T (.tup [x,y]),
   λi H=>∃xs ys,Fy K H a xs/\Fy K H b ys/\(i_<=i\/ah!<=i)⟩
def b1t{w:yO!}{K:zY!}{jn:bk_}{n1:Nat}{tp:Pos}{a b TI TO:xz!}(D:ZipApart z TI TO i1 i2 a b):
  Sh P w K fe! (DQ K a b) [z,TI,TO,i1,i2] z (λi h=>IsZip h z TI TO .none/\IsPair h TI (.ref i1) (.ref i2)/\(∃p q,IsPair h TO p q)/\h.IsTupleIter i1 a i/\h.IsTupleIter i2 b i) where
 mem:=by simp
 obj:=λi h st c hc=>by
  obtain⟨s1,s2,⟨p,q,s3⟩,⟨o4,s4,c4,d4⟩,⟨o5,s5,c5,d5⟩⟩:=st;simp only[HV,JJ,LH]at hc;obtain rfl|rfl|rfl|rfl|rfl:=hc
  .exact⟨_,s1,oF_⟩
  .exact⟨_,s2,oF_⟩
  .exact⟨_,s3,oF_⟩
  .exact⟨o4,s4,λv y=>by rw[d4]at y;cases y⟩
  .exact⟨o5,s5,λv y=>by rw[d5]at y;cases y⟩
 keep:=λi h h' st k=>by
  obtain⟨s1,s2,⟨p,q,s3⟩,⟨o4,s4,r4⟩,⟨o5,s5,r5⟩⟩:=st;exact⟨k z b_ _ s1,k TI b_ _ s2,⟨p,q,k TO b_ _ s3⟩,⟨o4,k i1 b_ _ s4,r4⟩,⟨o5,k i2 b_ _ s5,r5⟩⟩
 item:=by
  intro X hP hw hK hc i Y s Z H E I hf st hg;subst hP hw hK;obtain⟨xs,ys,x,y,qa,qb,hx,hy⟩:=hg;obtain⟨s1,s2,⟨p,q,s3⟩,s4,s5⟩:=st;obtain⟨ia,ra,ta,za⟩:=I.tuple qa;obtain⟨ib,rb,tb,zb⟩:=I.tuple qb;obtain⟨u,hu,ru⟩:=ra.get hx;obtain⟨v,hv,rv⟩:=rb.get hy;refine a6s D s1 s2 s3 s4 s5 ta tb (x:=u) (y:=v) rG! iX_ λh' a1 a2 a3 a4 a5 a6=>?_;refine⟨_,rfl,wpAny_letOwnedTupleGo_zip (s:=l8!) a1 λh2 b1 bn=>?_⟩;have qf:Heap.SameBut z h' h2:=bn;have neT:∀c o,s.heap.get? c=some o->g!≠c:=λc o e=>LO cL!;have fz:=hf z b_;have fO:=hf TO b_;have f1:=hf i1 b_;have f2:=hf i2 b_;have I1:Inv X Y Z H {s with heap:=h2,toks:=s.toks}:=by
   have pf:∀(c:xz!),c∈fe_->H c=none:=λc hc=>by
    simp only[HV,JJ,LH]at hc;obtain rfl|rfl|rfl|rfl:=hc
    .exact fz.1
    .exact fO.1
    .exact f1.1
    .exact f2.1
   have kp:∀c o,c∉fe_->s.heap.get? c=some o->h2.get? c=some o:=λc o hc e=>by
    simp only[HV,JJ,LH,OZ]at hc;exact qf.extBut _ _ hc.1 (a6 c o hc.1 hc.2.1 hc.2.2.1 hc.2.2.2 e)
   refine I.step (g':=s.gens) (d':=s.drawn) (ch:=fe_) hc! oG! oG_ h7! oH_ h7_ h8! oI! h8_ hc_ I.bare
   .simp only[HV,JJ,LH]at hc;obtain rfl|rfl|rfl|rfl:=hc
    .exact xQ!
    .exact xR!
    .exact xS!
    .exact xS_
   .show"!]"
   .refine(oI_).stay oJ_ oK! λ_ _ e'=>e';have hn:=pf d hm;obtain rfl|hd:=hd
    .rw[hn]at e;cases e
    .rw[hn]at hd;cases hd
  have sw:H g!=none:=I.hok.fresh v_;have eT:h2.get? g!=some {cls:=.type "tuple",data:=.seq #[u,v]}:=qf.extBut _ _ (neT z _ s1) a5;have I2:Inv X Y Z (upd H s.heap.objs.size (.tup [x,y])) {s with heap:=h2,toks:=s.toks}:=by
   have ne:∀c o,H c=some o->c≠g!:=λc o e=>cC e sw;have W5:∀p∈X.pn++Y,p.1≠g!:=λp hp=>JF (IS (l5!).1);refine Inv.step (s:={s with heap:=h2,toks:=s.toks}) (g':=s.gens) (d':=s.drawn) (t':=s.toks) (h':=h2) (ch:=[g!]) I1 hc! xU! xU_ xV! xV_
    (xW_) xX! xX_ nv! hc_ I1.bare
   .have e:c=g!:=by simpa using hc
    subst e;exact⟨.inr I.sz,LO I.lt,λx c h=>(λz=>by obtain⟨v,o,ho,_⟩:=I.cell x c h;rw[z]at ho;exact absurd hZ! dr_),W5⟩
   .rw[nv_];exact n
   .by_cases hb:c=g!
    .show"!s";exact⟨by show 2<=sizeLine;rw[KH];decide,[u,v],.cons ru (.cons rv .nil),⟨_,eT,rfl,_,rfl⟩⟩
    .rw[aY hb]at e;exact(xZ_).stay nw! x0! λd xs q=>by rw[oL_];exact q
  refine⟨dK_,_,I2,rfl,⟨_,rfl,sw,λxs' WN d7 sy=>⟨x,y,?_,?_,rfl⟩⟩,⟨b1,qf.extBut _ _ D.TIz (a6 TI _ D.TIz D.TITO D.TIi1 D.TIi2 s2),⟨u,v,qf.extBut _ _ D.TOz a2⟩,bX a3 qf.extBut D.i1z,bX a4 qf.extBut D.i2z⟩,oM!⟩
  .rw[I.tuple_inj d7 qa];exact hx
  .rw[I.tuple_inj sy qb];exact hy
  .have xk:=(hf c hc).1;have b7:∃o,s.heap.get? c=some o:=by
    obtain⟨o4,t4,_⟩:=s4;obtain⟨o5,t5,_⟩:=s5;simp only[HV,JJ,LH]at hc;obtain rfl|rfl|rfl|rfl|rfl:=hc
    .exact⟨_,s1⟩
    .exact⟨_,s2⟩
    .exact⟨_,s3⟩
    .exact⟨_,t4⟩
    .exact⟨_,t5⟩
   obtain⟨o,ho⟩:=b7;rw[aY (JE (neT c o ho))];exact xk
 done:=by
  intro X hP hw hK hc i Y s Z H E I hf st hg;subst hP hw hK;obtain⟨xs,ys,qa,qb,W6⟩:=hg;obtain⟨s1,s2,⟨p,q,s3⟩,s4,s5⟩:=st;obtain⟨ia,ra,ta,za⟩:=I.tuple qa;obtain⟨ib,rb,tb,zb⟩:=I.tuple qb;have l1:=ra.length;have l2:=rb.length;refine vZ a3_ D s1 s2 s3 s4 s5 ta tb (by
   obtain h|h:=W6
   .left;simp;omega
   .right;simp;omega) λh2 a6=>n!
  have fz:=hf z b_;have fO:=hf TO b_;have f1:=hf i1 b_;have f2:=hf i2 b_;have pf:∀(c:xz!),c∈fe_->H c=none:=λc hc=>by
   simp only[HV,JJ,LH]at hc;obtain rfl|rfl|rfl|rfl:=hc
   .exact fz.1
   .exact fO.1
   .exact f1.1
   .exact f2.1
  have kp:∀c o,c∉fe_->s.heap.get? c=some o->h2.get? c=some o:=λc o hc e=>by
   simp only[HV,JJ,LH,OZ]at hc;exact a6 c o hc.1 hc.2.1 hc.2.2.1 hc.2.2.2 e
  refine I.step (g':=s.gens) (d':=s.drawn) (t':=s.toks) (ch:=fe_) hc! oG! oG_ h7! oH_ h7_ h8! oI! h8_ hc_ I.bare
  .simp only[HV,JJ,LH]at hc;obtain rfl|rfl|rfl|rfl:=hc
   .exact xQ!
   .exact xR!
   .exact xS!
   .exact xS_
  .show"!]"
  .refine(oI_).stay oJ_ oK! λ_ _ e'=>e';have hn:=pf d hm;obtain rfl|hd:=hd
   .rw[hn]at e;cases e
   .rw[hn]at hd;cases hd
 self:=λA i s Q E st h=>wpAny_pyIter_zip st.1 h
section
variable{X:Cx}{own:List Nat}{e a b c o i tg:Expr}{es jn:List Expr}{pos p2 p tp:Pos}{f fa fb fc fe:Ad->Option D}{n1:Nat}
def c1z{ta:TA}(hg:Gl X "zip")(hm:x0_)(hv:x1!)(ha:PA X al! ta)(hs:x1_:=by rfl)(ax:x2!:=by rfl):
  PI X fe! x3! (λZ H R=>ta Z H λvs H1=>∃x y xs ys,vs=[.ref x,.ref y]/\Fy X.K H1 x xs/\Fy X.K H1 y ys/\R (DQ X.K x y) H1):=by
 intro Y s Z H R I h;refine Call_ (iP I hg hm hv (KO mf! hs ax));obtain⟨x,y,xs,ys,rfl,qx,qy,q⟩:=q1;obtain⟨u,u',rfl,ru,a9⟩:=wS r1;cases ru;cases a9;obtain⟨ia,ra,TQ,za⟩:=I1.tuple qx;obtain⟨ib,rb,TR,zb⟩:=I1.tuple qy;have lx:x<y!:=by obtain⟨ob,eo,_⟩:=TQ;exact IS eo
 have ly:y<y!:=by obtain⟨ob,eo,_⟩:=TR;exact IS eo
 refine c0m TQ TR λh' a1 a2 a3 a4 a5 a6=>?_;refine wpAny_pyIter_zip a1 ?_;have I2:Inv X Y Z H1 {s1 with heap:=h',toks:=s1.toks}:=I1.kept (t':=s1.toks) a6;have D:ZipApart (y!+4) (y!+2) (y!+3) s1.heap.objs.size (y!+1) x y:=by
  constructor<;>(intro z;have z':@Eq Nat _ _:=z;have l1:@LT.lt Nat _ x _:=lx;have l2:@LT.lt Nat _ y _:=ly;omega)
 refine⟨_,_,_,DQ X.K x y,H1,rfl,I2,b1t D,⟨a1,a2,⟨_,_,a3⟩,a4,a5⟩,oM!,q⟩;have jo:y!<=c:=by
  simp only[HV,JJ,LH]at hc;obtain rfl|rfl|rfl|rfl|rfl:=hc<;>omega
 exact I1.fpOk jo (I1.hok.fresh jo)
def Kk:List D->List D->List D
 |x::xs,y::ys=>.tup [x,y]::Kk xs ys
 |_,_=>[]
def Zx(fa fb:e_):Ad->Option aI_:=λρ=>(eY!).bind λx=>(jx_).bind λy=>match x,y with|.tup xs,.tup ys=>some kc_|_,_=>none
def a2b:∀(xs ys:b!) (n:Nat) (d:D),kc_[n]?=some d->∃x y,xs[n]?=some x/\ys[n]?=some y/\d=.tup [x,y]
 |[],_,n,d,h=>by simp[Kk]at h
 |_::_,[],n,d,h=>by simp[Kk]at h
 |x::xs,y::ys,0,d,h=>by
  simp[Kk]at h;exact⟨x,y,rfl,rfl,h.symm⟩
 |x::xs,y::ys,n+1,d,h=>by
  obtain⟨u,v,J,h2,h3⟩:=a2b xs ys n d (by simpa[Kk]using h);exact⟨u,v,lf_,by simpa using h2,h3⟩
def a2a:∀(xs ys:b!),i_<=(kc_).length\/ah!<=(kc_).length
 |[],ys=>.inl bL!
 |_::_,[]=>.inr bL!
 |x::xs,y::ys=>by
  obtain h|h:=a2a xs ys
  .left;simp[Kk];exact h
  .right;simp[Kk];exact h
def c3h{K:zY!}{G1:Hp}{es:b!}(qa:Fy K G1 x vs)(qb:Fy K G1 y ws)(ra:Al K G1 ds vs)(rb:Al K G1 es ws):Yk K (DQ K x y) (Kk ds es) G1:=by
 intro n G' H' s1 s2;have d7:Fy K H' x vs:=bT s2 (bT s1 qa);have sy:Fy K H' y ws:=bT s2 (bT s1 qb);refine⟨dT_,λhn=>⟨vs,ws,d7,sy,?_⟩⟩
 .obtain⟨u,v,J,h2,rfl⟩:=a2b ds es n d hd;obtain⟨v1,g1,r1⟩:=gH ra J;obtain⟨v2,g2,r2⟩:=gH rb h2;refine⟨⟨vs,ws,v1,v2,d7,sy,g1,g2⟩,λx' gr hy=>?_⟩;obtain⟨T,rfl,hT,hh⟩:=hy;obtain⟨x1,y1,e1,e2,rfl⟩:=hh vs ws d7 sy;rw[g1]at e1;rw[g2]at e2;cases e1;cases e2;exact⟨_,Cc.laid s2 hT,fH (s2.free hT) (Al.cons (r1.mono s1) (Al.cons (r2.mono s1) Al.nil))⟩
 .rw[hn,<-aI ra,<-aI rb];exact a2a ds es
def c9a(hg:Gl X "zip")(hm:x0_)(hv:x1!)(ha:U!)(hb:ct_)(hs:x1_:=by rfl)
  (bn:starEach [b] X.env=iw!::starEach [] X.env:=by rfl)(ax:x2!:=by rfl):DI X own fe! x3! (Zx fa fb):=
 a5c (c1z hg hm hv (dA ha.ok (dA hb.ok fP bn) hs) hs ax) λZ G H R ρ ds er e k=>by
  obtain⟨x,e1,e⟩:=HN.mp e;obtain⟨y,e2,e⟩:=HN.mp e;cases x with
  |tup xs=>
   cases y with
   |tup ys=>
    cases e;refine x5!;obtain⟨p,vs,rfl,q,rr⟩:=bN gP!;obtain⟨p',ws,rfl,q',bz⟩:=bN r2;exact⟨p,p',vs,ws,rfl,bT s2.sub q,bT s2.sub q',k _ G2 H2 c9! (c3h q q' rr bz)⟩
   |_=>cases e
  |_=>cases e
end
def De:D->D->Option D:=Ds Ti λi j=>.int (i*j)
def jZ{K:zY!}:Ic K ml_ De:=c7l
def Bo:D->D->Option D:=Ds wm_ λi j=>.int (i%j)
def eC{K:zY!}:Ic K mn_ Bo:=c7m
def Bz:D->D->Option D:=Ds wn! λi j=>.int (i / j)
def mI{K:zY!}:Ic K mm! Bz:=c2q
def Fi:D->D->Option D:=Ds wo! λi j=>.int mp!
def b6u{K:zY!}:Ic K mo_ Fi:=c7k
def Ji:D->D->Option D:=Bw λi j=>.bl mp_
def b0k{K:zY!}:Ic K mq! Ji:=d1d
def Ks:D->D->Option D:=Bw λi j=>.bl mr_
def b6v{K:zY!}:Ic K ms! Ks:=d1f
def Nl:D->D->Option D:=Bw λi j=>.bl mt!
def d1b{K:zY!}:Ic K ms_ Nl:=d1g
section
variable{X:Cx}{own:List Nat}{pos p2:Pos}
def jB:Gv X mq_ x5_:=d0x.or b2q
def Ie:D->D->Option D
 |.int i,.int j=>some (.bl mr!)
 |.str x,.str y=>some (.bl (Qz x y))
 |_,_=>none
def jC{K:zY!}:Ic K x5_ Ie:=by
 show"!1";unfold Ie at e;show"!8"
 .show"!Y";exact .inl x6!
 .cases bW rx;cases bW ry;cases e;exact .inr x6!
 .cases e
def Lh:D->D->Option D
 |.int i,.int j=>some (.bl (!(i==j)))
 |.str x,.str y=>some (.bl (!(x==y)))
 |_,_=>none
def xJ{K:zY!}:Ic K FV Lh:=by
 show"!1";unfold Lh at e;show"!8"
 .show"!Y";refine n!;rw[b1g];show"!k"
 .cases bW rx;cases bW ry;cases e;refine n!;rw[b1f];show"!k"
 .cases e
def gP{x:Str}{i:Int}(hm:∃t,X.mg x=some dp_)(hg:J!)(hd:y_:=by decide):DE X own cN_ (fC ak_):=by obtain⟨t,ht⟩:=hm;exact c4g hg ht hd
end
def cE{X:Cx}{scope sc:Scope}(h:X.env.scope=sc)(hd:∀y∈b1_,y.2=.free->(sc.names.lookup y.1=some .cell\/sc.names.lookup y.1=some .free)):
  ∀y∈b1_,y.2=.free->vn!:=λy hy hf=>by
 unfold Env.kindOf;rw[h];exact hd y hy hf
section
variable{X:Cx}{own:List Nat}{a b c:Expr}{pos p2:Pos}{fa fb fc:Ad->Option D}
def b9q{op eh:CmpOp}{r r':R2}{g g':aY_}(ho:bT!)(hg:dQ_)(d9:iD!)(sk:Ic X.K r' g')(ha:U!)(hb:ct_)(hc:DE X own c fc)
  (hm:iD_:=by with_unfolding_all rfl):DT X own iE! (fT w0!):=
 vL (b5s ho d9 ha.ok hb.ok hc.ok hm) λZ G H Q ρ d er e k=>by
  have e:=kG e;obtain⟨x,e1,e⟩:=HN.mp e;obtain⟨y,e2,e⟩:=HN.mp e;obtain⟨z,e3,e⟩:=HN.mp e;refine w1!;have ng:=s1.trans gP_;cases z with
  |bl bb=>
   cases cS r3;refine w1_;cases bb with
   |true=>
    obtain⟨u,e4,e⟩:=HN.mp e;refine kD ⟨G3,ρ,u,er.grow ng,e4,λq G4 H4 s4 r4=>sk s4.sub w2! r4 e λv G5 H5 s5 r5=>?_⟩;cases cS r5;exact⟨d,rfl,k G5 H5 w2_⟩
   |false=>
    cases e;exact kW ⟨false,rfl,k G3 H3 ng⟩
  |_=>cases e
def b3w{x:Str}{bu:aK_}(hd:Ts X x bu)(hg:J!)(ha:U!)(hm:behindInMarks .NotIn db!=false:=by rfl)(a8:y_:=by decide):DT X own (.Compare a [.NotIn] [cv!] pos) (fT (Yd bu true fa)):=by
 show"#C";refine vL (t:=λZ H Q=>tD X.K own fa Z H λv H1=>∃y,v=.str y/\Q (!(Mz h1 dW_).isSome) H1) w6_ λZ G H Q ρ d er e k=>?_
 .refine RL (cX w7! λv s1 ⟨y,H1,I1,r1,z,hz,q1⟩=>iB I1 hg jx ?_ a8) hm;subst hz;refine wpAny_notIn_of (knd:=w8!) (k:=ot_) w8_ SX (xa _ I1.kIn).mapOf ?_;rw[<-(xb.val ot!).isSome_eq];exact JW ⟨H1,I1.tok _,q1⟩
 .have e:=kG e;obtain⟨x,e1,e⟩:=HN.mp e;cases x with
  |str y=>
   cases e;refine e1_;cases bW r1;refine⟨y,rfl,?_⟩;have hb:(Mz h1 dW_).isSome=(os_).isSome:=by
    cases ht:bu.lookup y with
    |none=>rw[(hn y).mpr ht];rfl
    |some d=>obtain⟨v,hv,_⟩:=hs y d ht;rw[hv];rfl
   rw[hb];exact k G1 H1 s1
  |_=>cases e
end
def dY:bootBuiltins "len"=some ss_:=by decide+kernel
def c9u:bootBuiltins "abs"=some sp!:=by decide+kernel
def c9s:bootBuiltins "ord"=some sq_:=by decide+kernel
def a8u:bootBuiltins "all"=some wt_:=by decide+kernel
def cI:bootBuiltins "isinstance"=some jH_:=by decide+kernel
def c9t:bootBuiltins "int"=some bH_:=by decide+kernel
def c4r:bootBuiltins "bool"=some bI!:=by decide+kernel
def a8t:bootBuiltins "str"=some bI_:=by decide+kernel
def pP:bootBuiltins "tuple"=some be_:=by decide+kernel
def c4p:bootBuiltins "list"=some eN!:=by decide+kernel
def c9r:bootBuiltins "zip"=some oE!:=by decide+kernel
def Fo(K:zY!)(mg:x!)(x:Str)(st:Stmt)(ps:o!):Prop:=∃ag fd,Xf K x x st ag fd/\Ex K fd ps []/\mg x=some be!
def By(N:o!)(n:Nat)(q:aJ_)(ds:b!):Option D:=if f_=n then(match q g0_ with|some (.rt d)=>some d|some (.nx _)=>some .non|none=>none)else none
def dZ{K:zY!}{mg:x!}{st:Stmt}{ps:o!}{k:Nat}{ae:k!}{q:aJ_}(h:oM_)(S:c5!)
  (hb:∀{ag:xz!} {ah:xT!} {A:x8!} {outer:P_} {s:z6!} {H:Hp} {E:XK},Ak k kd_->Xg (oN!).nox [] ae bs! q):
  Ok P w K mg base M_ x ps (By N ps.length q):=by
 obtain⟨ag,fd,F,B,m⟩:=h;refine⟨ag,fd,c9c F S (λah A outer s H E hr=>hb hr) (λds d hl e=>?_),B,m,F.kp⟩;unfold By at e;rw[IB hl]at e;show"!8"
 .cases e;left;assumption
 .cases e;right;exact⟨_,by assumption,rfl⟩
 .cases e
def CB:Const->Option D
 |.int i=>some ak_
 |.str i=>some jt_
 |.bool i=>some (.bl i)
 |.none=>some .non
 |_=>none
mutual
noncomputable def Uf:Nat->Expr->Option D
 |0,_=>none
 |n+1,e=>match e with
  |.Constant c _ _=>CB c
  |.Tuple es _ _=>(oN_).bind λds=>if f_<=1000 then some c7_ else none
  |.List es _=>(oN_).bind λds=>if f_<=1000 then some cq! else none
  |_=>none
noncomputable def Ue:Nat->List Expr->Option aI_
 |0,_=>none
 |n+1,[]=>some []
 |n+1,e::es=>(Uf n e).bind λd=>(oN_).bind λds=>some dP_
end
section
variable{X:Cx}{own:List Nat}
def b8a{n:Nat}(h:Uf n e=some d):starEach aD_ X.env=dE_::starEach es X.env:=by
 cases n with
 |zero=>unfold Uf at h;cases h
 |succ n=>
  cases e<;>first|rfl|(simp[Uf]at h;done)
mutual
theorem gV:∀{n:Nat} {e:Expr} {d:D},Uf n e=some d->DE X own e (fC d)
 |0,e,d,h=>by unfold Uf at h;cases h
 |n+1,e,d,h=>by
  unfold Uf at h;split at h
  .unfold CB at h;split at h
   .cases h;exact aB
   .cases h;exact aR
   .cases h;exact fU
   .cases h;exact dD
   .cases h
  .obtain⟨ds,e1,e2⟩:=HN.mp h;split at e2
   .rename_i hl;cases e2;refine eI (cP (a8l e1)).ok λZ G H Q ρ d er e k=>?_;show"#B"
   .cases e2
  .obtain⟨ds,e1,e2⟩:=HN.mp h;split at e2
   .rename_i hl;cases e2;refine eI (nO (a8l e1)).ok λZ G H Q ρ d er e k=>?_;show"#B"
   .cases e2
  .cases h
theorem a8l:∀{n:Nat} {es:bk_} {ds:b!},Ue n es=some ds->DA X own es (λ_=>some ds)
 |0,e,d,h=>by unfold Ue at h;cases h
 |n+1,[],d,h=>by
  unfold Ue at h;cases h;exact aK
 |n+1,e::es,d,h=>by
  unfold Ue at h;obtain⟨d1,e1,h⟩:=HN.mp h;obtain⟨ds,e2,h⟩:=HN.mp h;cases h;exact c0a (aD (gV e1) (a8l e2) (b8a e1)).ok λZ G H Q ρ d er e k=>⟨G,ρ,_,er,e,k⟩
end
end
section
variable{P:z7!}{w:yO!}{K:zY!}{mg:Str->Option Value}{h:Heap}
def aX{st:Stmt}{ps:o!}{od an:aG_}{dt:bB_}{kV:xT!}(X:dZ!)(G:ff!)
  (a:x9!)(l:ya!)
  (c:ya_)(k:gC_)
  (b:yb!):Fo K mg x st ps:=
 ⟨f,_,ke_,oP!,oP_⟩
def AH(K:zY!)(mg:x!)(x:Str)(st:Stmt)(ps:o!):Prop:=∃ag fd,Xf K x x st ag fd/\(∀us:List Value,aq_=R_->bindArgs fd cX_=pure cW_)/\mg x=some be!
def c4c{st:Stmt}{ps:o!}{od an:aG_}{dt:bB_}{kV:xT!}(X:dZ!)(G:ff!)
  (a:x9!)(l:ya!)
  (c:ya_)(k:gC_)
  (b:yb!):AH K mg x st ps:=
 ⟨f,_,ke_,b _ _ _ _ _ _,oP_⟩
def pJ{i:Int}(X:dZ!)(G:ff!)(a:W.nsIn K mainGlobals x=some (some (.int i tk))):∃tk,mg x=some (.int i tk):=⟨tk,oP_⟩
def dS(X:dZ!)(G:ff!)(e:W.nsIn K mainGlobals x=some he_):mg x=some F!:=W.mg_of X G e
def cZ(X:dZ!)(G:ff!)(e:W.nsIn K mainGlobals x=some none):mg x=none:=W.mg_none_of X G e
def yA{K:zY!}{H:Hp}:∀(ns:r!),Al K H oQ! bY_
 |[]=>Al.nil
 |n::r=>Al.cons Aq.int (yA r)
abbrev Tq:=Str×Tok×Addr
def Zn(w:yO!)(r:Tq):DictEntry:=⟨PyData.keyHash w.params r.1,.str r.1 r.2.1,.ref r.2.2⟩
def Uk(K:zY!):List Tq->List b5!->Prop
 |[],[]=>True
 |r::rs,t::ts=>r.1=t.1/\(∀H,Aq K H t.2 (V.ref r.2.2))/\Uk K rs ts
 |_,_=>False
abbrev Uz(rows:ff_):List (L2.Key×V):=rows.map λr=>(Sum.inr r.1,V.ref r.2.2)
abbrev Sy(rows:ff_):List w4_:=rows.map λr=>(Sum.inr r.1,Value.ref r.2.2)
def tR{P:z7!}:∀(rows:ff_),Pairs bj! yc! oQ_
 |[]=>.nil
 |r::rs=>.cons (lS P w r.1 r.2.1) rfl (tR rs)
def pZ:∀{rows:ff_} {bu:aK_},Uk K rows bu->(Mz oR! dW_=none↔bu.lookup y=none)/\∀d,bu.lookup y=some d->∃v,Mz oR! dW_=some v/\∀H,Aq K H d v
 |[],[],_=>⟨⟨cj_,cj_⟩,λd e=>by cases e⟩
 |[],t::ts,h=>h.elim
 |r::rs,[],h=>h.elim
 |r::rs,(x,d0)::ts,h=>by
  obtain⟨J,h2,h3⟩:=h;have ih:=pZ (y:=y) h3;have iy:r.1=x:=J;unfold Mz at ih ⊢;simp only[IE,MQ,JY];by_cases e:y=x
  .subst e;have:decide yc_=true:=by simp[iy]
   simp only[this,LW];refine⟨⟨yd!,yd!⟩,λd z=>?_⟩;cases z;exact⟨_,rfl,h2⟩
  .have e1:decide yc_=false:=by
    rw[iy];exact IG λz=>e (yd_).symm
   have e2:(y==x)=false:=by simp[e]
   simp only[e1,e2];exact ih
def b0s:∀(rows:ff_),KV oR! oQ_
 |[]=>.nil
 |r::rs=>.cons aE! (b0s rs)
def b9d{X:Cx}{x:Str}{ad:xz!}{rows:ff_}{bu:aK_}{ep:Nat}(hw:X.w=w)(hK:X.K=K)(jx:X.mg=mg)(hm:mg x=some j4!)(hs:os!=false)(hl:K.lookup ad=some {cls:=.type "dict",data:=.dict (yc!).toArray ep})
  (nd:fg_)(ht:Uk K rows bu):Ts X x bu:=by
 subst hw hK jx;refine⟨ad,Uz rows,Sy rows,hm,hs,λh hK=>⟨_,_,_,hK _ _ hl,ye_,rfl,?_,?_,?_⟩,b0s rows,λy=>(pZ ht).1,λy d=>(pZ ht).2 d⟩
 .intro e he;have iz:e∈rows.map (Zn X.w):=by simpa using he
  obtain⟨r,hr,rfl⟩:=IU.mp iz;exact⟨Sum.inr r.1,lS _ _ r.1 r.2.1,rfl⟩
 .simpa using tR (w:=X.w) (P:=X.prog) rows
 .have e:(oQ_).map c_=(oS!).map (Sum.inr:Str->L2.Key):=by simp[Sy]
  rw[e];exact List.Pairwise.map _ (λa b k9 z=>k9 yd_) nd
def a2v{H:Hp}:∀(fs:I_),Al K H (fs.map D.fn) yf!
 |[]=>Al.nil
 |n::r=>Al.cons (by unfold Aq;rfl) (a2v r)
def wQ:∀(fs:I_),Ax yf! yf_
 |[]=>.nil
 |n::r=>.cons rfl (wQ r)
def gG{fs:I_}{od:aG_}{n:Nat}{sl:bB_}(l:K.lookup a=some ⟨cC!,od,.seq (yf_).toArray n,sl⟩)(hz:bj_<=1000)(H:Hp):Aq K H (.tup (fs.map D.fn)) gM_:=
 Aq.tup (.inr ⟨_,_,n,l,rfl,rfl,by simpa using eY hz,by simpa using wQ fs⟩) (a2v fs)
end
abbrev MK:=Option (Sum L2.Key (List L2.Key))
abbrev BZ:Int:=0xFCA86420
section
variable{P:z7!}{w:yO!}{A:x8!}{E:Value->Shared->Prop}{s:z6!}
variable (P w)in
def Jw(h:Heap):MK->Value->Prop
 |none,v=>v=.none
 |some (.inl k),v=>Qk k v=true
 |some (.inr ks),v=>∃a,v=.ref a/\IsTupleKey bj! h ks a
variable (P w)in
nonrec def mkHash:MK->Int
 |none=>BZ
 |some (.inl k)=>CC w k
 |some (.inr ks)=>tupleKeyHash bj! ks
def a3t(hx:Jw P w h x v)(hy:Jw P w h y v):x=y:=by
 obtain _|x|x:=x<;>obtain _|y|y:=y
 .rfl
 .cases yh!;obtain⟨i,t,_,e⟩|⟨i,t,_,e⟩:=bJ hy<;>exact nomatch e
 .cases yh!;obtain⟨a,e,_⟩:=hy;exact nomatch e
 .cases hg_;obtain⟨i,t,_,e⟩|⟨i,t,_,e⟩:=bJ hx<;>exact nomatch e
 .rw[(bj!).inj v x y hx hy]
 .obtain⟨a,rfl,_⟩:=hy;obtain⟨i,t,_,e⟩|⟨i,t,_,e⟩:=bJ hx<;>exact nomatch e
 .cases hg_;obtain⟨a,e,_⟩:=hx;exact nomatch e
 .obtain⟨a,rfl,_⟩:=hx;obtain⟨i,t,_,e⟩|⟨i,t,_,e⟩:=bJ hy<;>exact nomatch e
 .obtain⟨a,rfl,hx⟩:=hx;obtain⟨b,e,hy⟩:=hy;cases e;rw[hx.inj hy]
def jR{h:Heap}{ks:oT_}(x:IsTupleKey bj! h ks a):∃its,h.IsTuple a its:=by obtain⟨o,its,n,J,h2,h3,_⟩:=x;exact⟨its,o,J,h2,n,h3⟩
def b7o{Q:df!}(hu:an!)(hx:oU!)(hy:Jw P w s.heap y v)(h:Q (decide (x=y)) s):wpAny C! A (eqBool u v) Q E s:=by
 obtain _|x|x:=x<;>obtain _|y|y:=y
 .cases hh!;cases hg_;rw[fi!]at h;exact SeqAt.EqAt.same _ _ _ _ _ h
 .cases hh!;rw[fi_]at h;obtain⟨i,t,rfl,rfl⟩|⟨i,t,rfl,rfl⟩:=bJ hy
  .exact SeqAt.EqAt.none_int i t _ _ _ _ h
  .exact SeqAt.EqAt.none_str i t _ _ _ _ h
 .cases hh!;rw[fi_]at h;obtain⟨a,rfl,q⟩:=hy;obtain⟨its,q⟩:=jR q;exact SeqAt.EqAt.none_tuple q hu _ _ _ _ h
 .cases hg_;rw[fi_]at h;obtain⟨i,t,rfl,rfl⟩|⟨i,t,rfl,rfl⟩:=bJ hx
  .exact SeqAt.EqAt.int_none i t _ _ _ _ h
  .exact SeqAt.EqAt.str_none i t _ _ _ _ h
 .refine(bj!).eqBool hx hy ?_;by_cases e:x=y
  .subst e;rw[fi!]at h ⊢;exact h
  .rw[IG cI_]at h;rw[IG e];exact h
 .rw[fi_]at h;obtain⟨a,rfl,q⟩:=hy;obtain⟨its,q⟩:=jR q;obtain⟨i,t,rfl,rfl⟩|⟨i,t,rfl,rfl⟩:=bJ hx
  .exact SeqAt.EqAt.int_tuple i t q hu _ _ _ _ h
  .exact SeqAt.EqAt.str_tuple i t q hu _ _ _ _ h
 .cases hg_;rw[fi_]at h;show"#)";obtain⟨its,q⟩:=jR q;exact SeqAt.EqAt.tuple_none q hu _ _ _ _ h
 .rw[fi_]at h;obtain⟨a,rfl,q⟩:=hx;obtain⟨its,q⟩:=jR q;obtain⟨i,t,rfl,rfl⟩|⟨i,t,rfl,rfl⟩:=bJ hy
  .exact SeqAt.EqAt.tuple_int i t q hu _ _ _ _ h
  .exact SeqAt.EqAt.tuple_str i t q hu _ _ _ _ h
 .show"#)";obtain⟨b,rfl,q2⟩:=hy;refine wpAny_eqBool_tuple hu q q2 ?_;by_cases e:x=y
  .subst e;rw[fi!]at h ⊢;exact h
  .rw[IG cI_]at h;rw[IG e];exact h
def a3s{Q:df!}(hx:oU!)(h:Q true s):wpAny C! A (eqIsQuiet 8 u) Q E s:=by
 obtain _|x|x:=x
 .cases hh!;rw[eqIsQuiet_byValue _ rfl];exact HP h
 .rw[eqIsQuiet_byValue _ ((bj!).byValue x u hx)];exact HP h
 .show"#)";exact wpAny_eqIsQuiet_tuple q h
def sK{Q:Int->Shared->Prop}(hu:an!)(hx:oU!)(h:∀tk,Q (mkHash P w x) {s with toks:=tk}):wpAny C! A (pyHash u) Q E s:=by
 obtain _|x|x:=x
 .cases hh!;unfold pyHash;have hv:[ce_].any Value.onHeap=false:=rfl;refine HM ?_;rw[cRoomFor,IF (by rw[hv];exact IV)];refine HP ?_;have hT:s.TypeIs .none "NoneType":=rfl;refine HM yi_;rw[IF (show¬(some (Value.builtin "NoneType.__hash__")==some Value.none)=true by rw[beq_builtin_none];exact IV)];refine HM yi_;show wpAny _ _ (callSpecialIfBoundUnlessNone? Value.none (Str.ofString "__hash__") _>>=_) _ _ _;refine HM (wpAny_callSpecialIfBoundUnlessNone?_slot hT OG (JR OG hT PySem.F.entry_NoneType_hash ?_ (PySem.F.args_NoneType_hash_1 _)));refine wpAny_ret_mkInt ?_;exact HP (h _)
 .exact(bj!).pyHash hx (h _)
 .show"#)";exact wpAny_pyHash_tuple hu q (h _)
end
def Mb(ks:a0_)(k:MK):Option Nat:=ks.findIdx? λx=>decide (x=k)
def Hd(ks:a0_)(k:MK)(i:Nat):Bool:=decide (ks[i]?=some k)
def pB{ks:a0_}{j:Nat}(h:yj!):ks[j]?=some k/\∀i,i<j->ks[i]?≠some k:=by obtain⟨J,h2,h3⟩:=List.findIdx?_eq_some_iff_getElem.mp h;refine⟨by rw[IL J];exact congrArg some (KC h2),λi hi e=>?_⟩;have:=h3 i hi;obtain⟨q1,q2⟩:=IJ.mp e;rw[q2]at this;simp at this
def a4b{ks:a0_}(h:Mb ks k=none)(i:Nat):ks[i]?≠some k:=λe=>by
 have:=List.findIdx?_eq_none_iff.mp h k (NH e);simp at this
def a8g(ks:a0_)(k:MK):(List.range hh_).find? dg!=Mb ks k:=by
 cases h:Mb ks k with
 |none=>
  rw[List.find?_eq_none];intro i hi z;exact a4b h i (KC z)
 |some j=>
  obtain⟨J,h2⟩:=pB h;rw[List.find?_range_eq_some];refine⟨by unfold Hd;exact IY J,PF.mpr (jS!).1,λi hi=>?_⟩;unfold Hd;rw[IG (h2 i hi)];rfl
section
variable{P:z7!}{w:yO!}{A:x8!}{E:Value->Shared->Prop}{s:z6!}
variable (P w)in
structure Ny(h:Heap)(es:br_)(ks:a0_):Prop where
 len:es.size=hh_
 at_:∀(i:Nat) (e:DictEntry) (k:MK),es[i]?=some e->ks[i]?=some k->Jw P w h k e.key/\e.hash=mkHash P w k
 nd:hi!
def Ny.get{es:br_}{ks:a0_}(x:ki!){i:Nat}{e:DictEntry}(q:es[i]?=some e):∃k,ks[i]?=some k/\Jw P w h k e.key/\e.hash=mkHash P w k:=by
 have hl:i<hh_:=by rw[<-x.len];exact(KU.mp q).1
 exact⟨ks[i],IL hl,x.at_ i e _ q (IL hl)⟩
def Ny.one{es:br_}{ks:a0_}(x:ki!){i j:Nat}(J:Hd ks k i=true)(h2:Hd ks k j=true):i=j:=by have e1:=KC J;have e2:=KC h2;exact(List.getElem?_inj (IJ.mp e1).1 x.nd).mp qO_
abbrev plc(es:br_)(h:Int):List Nat:=placesWithHash es.size (λi=>es[i]?.map (·.hash)) h
def a4v{es:br_}{ks:a0_}(x:ki!)(k:MK):(kj!).find? dg!=Mb ks k:=by
 unfold plc placesWithHash;rw[List.find?_filter,<-a8g,x.len];congr 1;funext i;cases hp:Hd ks k i with
 |false=>simp
 |true=>
  have e1:=KC hp;have hl:i<es.size:=by rw[x.len];exact(IJ.mp e1).1
  obtain⟨k',q1,q2,q3⟩:=x.get (JO hl);rw[e1]at q1;cases q1;simp[JO hl,q3]
def b5y{es:br_}{h:Int}{i:Nat}(hi:i∈plc es h):i<es.size:=by have:=(LP.mp hi).1;simpa using this
def c6u{es:br_}{h:Int}:(plc es h).Nodup:=List.nodup_range.sublist yk_
def a5z{o:Obj}{es:br_}{ep:Nat}{ks:a0_}{Q:yl!}(hu:an!)(x:yl_)(hk:d0!)
  (ho:ym!)(hd:yn!)(h:Q hi_ s):wpAny C! A ym_ Q E s:=by
 show"!d";generalize plc es dg_=L at hf hl ⊢;rw[<-hf]at h;unfold dictWalkPlain;refine HM (RC _ (λrest b s'=>s'=s/\b=fj!/\rest.find? dg!=L.find? dg!/\∀i∈rest,i<es.size) _ ?_ ?_ _ _ ⟨rfl,rfl,rfl,hl⟩)
 .rintro i rest b s' ⟨rfl,rfl,J,h2⟩;have au:=h2 i HX;have he:es[i]?=some es[i]:=JO au;obtain⟨k',q1,q2,q3⟩:=x.get he;have no:k'≠k->rest.find? dg!=L.find? dg!:=λhne=>by
   rw[<-J,MQ];have:Hd ks k i=false:=by unfold Hd;rw[q1];exact IG yn_
   rw[this]
  show"##";rw[he];dsimp only;split
  .refine HM oX!;rw[T_];by_cases ln:k'=k
   .subst ln;rw[fi!];have hi:Hd ks k' i=true:=by unfold Hd;exact IY q1
    have:L.find? (Hd ks k')=some i:=by rw[<-J,MQ,hi]
    rw[this]at h;exact HM (LS kk_)
   .rw[IG ln];exact HM (LS (HP ⟨rfl,rfl,no ln,rs⟩))
  .rename_i hh;exact HP ⟨rfl,rfl,no yo_,rs⟩
 .rintro b s' ⟨rfl,rfl,J,_⟩;rw[<-J]at h;exact HP h
def a2e{Q:df!}(hk:d0!)(hl:∀v∈L,∃k',Jw P w s.heap k' v)(h:Q false s):wpAny C! A (tableMayTell u L) Q E s:=by
 unfold tableMayTell;split
 .exact HP h
 .refine HM (a3s hk ?_);rw[T_];refine HM (RC _ (λrest r s'=>s'=s/\r=fj!/\∀v∈rest,v∈L) _ ?_ ?_ _ _ ⟨rfl,rfl,λ_ z=>z⟩)
  .rintro v rest r s' ⟨rfl,rfl,hr⟩;obtain⟨k',q⟩:=hl v (hr v HX);refine HM (a3s q ?_);rw[T_];exact HP ⟨rfl,rfl,λy hy=>hr y dO_⟩
  .rintro r s' ⟨rfl,rfl,_⟩;exact HP h
def c0y{ks:a0_}{i:Nat}(q1:yp_)(e:k'=k):Hd ks k i=true:=by unfold Hd;rw[<-e];exact IY q1
def b1r{ks:a0_}{i:Nat}{rest:k!}{ar:oY_}(hc:(ar=none/\(i::rest).find? dg!=Mb ks k)\/∃j,ar=some j/\Mb ks k=some j/\Hd ks k j=true/\j∉i::rest)(q1:yp_)(hne:¬k'=k):
  yq!\/∃j,ar=some j/\Mb ks k=some j/\Hd ks k j=true/\j∉rest:=by
 obtain⟨e,J⟩|⟨j,e,J,h4,h5⟩:=hc
 .refine .inl je_;rw[<-J,MQ];have:Hd ks k i=false:=by unfold Hd;rw[q1];exact IG yn_
  rw[this]
 .exact .inr ⟨j,e,J,h4,λz=>h5 (HS _ z)⟩
def qT{v:xT!}(q:Jw P w h k v):v.isStr z=decide (k=some fk!):=by
 by_cases e:k=some fk!
 .subst e;rw[fi!];obtain⟨i,t,e,_⟩|⟨i,t,e,rfl⟩:=bJ q
  .cases e
  .cases e;simp[Value.isStr]
 .rw[IG e];cases v<;>first|rfl|skip
  rename_i y t;simp only[Value.isStr,KN,ne_eq];rintro rfl;exact e (a3t q (qR y t))
def b9g{es:br_}{ks:a0_}(x:ki!)(z:Str):(es.findIdx? λe=>e.key.isStr z)=Mb ks (some fk!):=by
 cases hk:Mb ks (some fk!)with
 |none=>
  rw[Array.findIdx?_eq_none_iff];intro e he;obtain⟨i,hi⟩:=Array.mem_iff_getElem?.mp he;obtain⟨k',q1,q2,_⟩:=x.get hi;rw[qT q2];exact IG λ(e:k'=_)=>a4b hk i ys!
 |some j=>
  obtain⟨J,h2⟩:=pB hk;have hj:j<es.size:=by rw[x.len];exact(jS!).1
  rw[Array.findIdx?_eq_some_iff_getElem];refine⟨hj,?_,λi hi=>?_⟩
  .obtain⟨k',q1,q2,_⟩:=x.get (JO hj);rw[qT q2];rw[J]at q1;cases q1;exact IY rfl
  .obtain⟨k',q1,q2,_⟩:=x.get (JO (Nat.lt_trans hi hj));rw[qT q2,IG (λ(e:k'=_)=>h2 i hi ys!)];simp
def d0m{g:Prop}(h:∃T:Prop,(T->g)/\T):g:=let⟨_,f,k⟩:=h;f k
def pK{o:Obj}{es:br_}{ep:Nat}{ks:a0_}{Q:yl!}(hu:an!)(x:yl_)(hk:d0!)
  (ho:ym!)(hd:yn!)(h:Q hi_ s):wpAny C! A (dictFind d u dg_) Q E s:=by
 have hst:∀v∈(kj!).filterMap (λi=>es[i]?.map kl!),∃k',Jw P w s.heap k' v:=λv hv=>by
  obtain⟨i,_,e⟩:=NS.mp hv;obtain⟨e',e1,rfl⟩:=IA.mp e;obtain⟨k',_,q,_⟩:=x.get e1;exact⟨k',q⟩
 have W7:¬(es.any λe=>e.key==u&&e.hash != mkHash P w k)=true:=λz=>by
  obtain⟨i,hi,z⟩:=Array.any_eq_true.mp z;rw[JD,NZ,bne_iff_ne]at z;obtain⟨k',_,q,q3⟩:=x.get (JO hi);rw[z.1]at q;exact z.2 (by rw[q3,a3t q hk])
 show"!d";have qg:(kj!).Nodup:=c6u;have ax:wpAny C! A ym_ Q E s:=a5z hu x hk ho hd h;unfold dictFind;refine JS (HM (MV ho hd ?_));refine d0m ?_;apply Exists.intro;apply And.intro
 .intro tl;have wv:(∃a,u=.ref a)\/(∃z t,u=.str z t/\k=some fk!)\/(u=.none\/∃i t,u=.int i t):=by
   clear tl;obtain _|k|k:=k
   .exact .inr (.inr lF_)
   .obtain⟨i,t,rfl,rfl⟩|⟨i,t,rfl,rfl⟩:=bJ hk
    .exact .inr (.inr (.inr ⟨i,t,rfl⟩))
    .exact .inr (.inl ⟨i,t,rfl,rfl⟩)
   .obtain⟨a,rfl,_⟩:=hk;exact .inl ⟨a,rfl⟩
  obtain⟨a,ea⟩|⟨z,t,ea,TU⟩|ea|⟨i,t,ea⟩:=wv
  all_goals rw[ea]
  all_goals dsimp only
  rotate_left
  refine wpAny_ite_split (λgn=>?_) λ_=>?_
  .clear tl;unfold foundByValue;rw[b9g x z,<-TU];cases hj:Mb ks k with
   |none=>rw[hj]at h;exact HP h
   |some j=>
    obtain⟨J,_⟩:=pB hj;have au:j<es.size:=by rw[x.len];exact(jS!).1
    obtain⟨k',q1,q2,_⟩:=x.get (JO au);rw[J]at q1;cases q1;dsimp only;rw[JO au,<-ea];refine HM oX!;rw[T_,fi!];rw[hj]at h;exact HM (LS (HP h))
  all_goals rw[<-ea]
  all_goals refine wpAny_ite_split (λ_=>ax) λ_=>?_
  rotate_right
  rw[IF W7]
  all_goals refine wpAny_ite_split (λ_=>HM O_) λ_=>HM (a2e hk hst ?_)
  all_goals rw[T_]
  all_goals exact tl
 refine HM (RC _ (λrest b s'=>s'=s/\∃ar,b=(none,ar)/\(∀i∈rest,i<es.size)/\rest.Nodup/\
  (yq!\/∃j,ar=some j/\Mb ks k=some j/\Hd ks k j=true/\j∉rest)) _ ?_ ?_ _ _ ⟨rfl,none,rfl,hl,qg,.inl ⟨rfl,hf⟩⟩)
 rotate_left
 .rintro b s' ⟨rfl,ar,rfl,_,_,hc⟩;obtain⟨rfl,J⟩|⟨j,rfl,J,_⟩:=hc
  .rw[<-J]at h;exact HP h
  .rw[J]at h;exact HP h
 .rintro i rest b s' ⟨rfl,ar,rfl,h2,h3,hc⟩;have au:=h2 i HX;have he:es[i]?=some es[i]:=JO au;obtain⟨k',q1,q2,q3⟩:=x.get he;obtain⟨n1,n2⟩:=IQ.mp h3;show"##";have stay:=λhne=>b1r hc q1 hne;rw[he];dsimp only;split
  .refine HM oX!;rw[T_];by_cases ln:k'=k
   rotate_left
   .rw[IG ln];simp only[JB,JT,Bool.false_and];exact HM (LS (HP ⟨rfl,ar,rfl,rs,n2,stay ln⟩))
   .have hi:=c0y q1 ln;rw[IY ln];obtain⟨rfl,J⟩|⟨j,e,J,h4,h5⟩:=hc
    .have hL:=J;rw[MQ,hi]at hL;simp only[KA,Option.isSome_none,JB,JT];refine HM fc!;split
     .rw[<-hL]at h;exact HP (HP h)
     .exact HP ⟨rfl,G_,rfl,rs,n2,.inr ⟨i,rfl,hL.symm,hi,n1⟩⟩
    .exact absurd (x.one hi h4) λz=>h5 (z▸HX)
  .rename_i hh;exact HP ⟨rfl,ar,rfl,rs,n2,stay yo_⟩
end
def Oa(h:Heap)(a:xz!)(es:Y_)(ep:Nat):Prop:=∃o,h.get? a=some o/\hP_/\o.data=.dict es.toArray ep
def Oa.typeIs{s:z6!}{a:xz!}{es:Y_}{ep:Nat}(D:hj_):s.TypeIs F! "dict":=let⟨o,ho,hc,_⟩:=D;⟨o,ho,hc.1⟩
def Yb(es:Y_)(j:oY_)(h:Int)(u v:xT!):List DictEntry:=match j with
 |some j=>es.modify j λe=>{e with val:=v}
 |none=>es++[⟨h,u,v⟩]
def Ya(j:oY_)(ep:Nat):Nat:=match j with
 |some _=>ep
 |none=>ep+1
section
variable{P:z7!}{w:yO!}{A:x8!}{E:Value->Shared->Prop}{s:z6!}{a:xz!}{es:List DictEntry}{ep:Nat}{ks:List MK}{k:MK}{u v:xT!}
def d1x{Q:cA_}(hu:an!)(D:hj_)(x:km_)(hk:d0!)(h:∀tk,Q ((hi_).bind λj=>es[j]?.map (·.val)) {s with toks:=tk}):
  wpAny C! A (dictGet a u) Q E s:=by
 obtain⟨o,ho,_,hd⟩:=D;unfold dictGet;refine JS oZ_;have h:=h tk;cases hj:Mb ks k with
 |none=>rw[hj]at h;exact HP h
 |some j=>
  rw[hj]at h;refine HM (MV (s:=d1!) ho hd O_);rw[NB];exact h
def sU{h:Heap}{f:Array DictEntry->Array DictEntry}{a7:Y_}{o:Obj}(ho:h.get? a=some o)(hc:hP_)(hd:o.data=.dict es.toArray ep)(he:f es.toArray=a7.toArray):
  Oa (h.update a (Obj.mapDict f)) a a7 ep/\Oa (h.update a (Obj.mapDictKeys f)) a a7 bu!:=
 ⟨⟨_,LF _ ho (Obj.isFreed_of_dict (Obj.data_mapDict hd _)),hc.mapDict _,by rw[Obj.data_mapDict hd,he]⟩,⟨_,LF _ ho (Obj.isFreed_of_dict (Obj.data_mapDictKeys hd _)),hc.mapDictKeys _,by rw[Obj.data_mapDictKeys hd,he]⟩⟩
def d1w{Q:cM!}(hu:an!)(D:hj_)(x:km_)(hk:d0!)(hl:o0_)
  (h:∀h' tk,Oa h' a (Yb es hi_ dg_ u v) (Ya hi_ ep)->Heap.SameBut a s.heap h'->Q () {s with heap:=h',toks:=tk}):wpAny C! A yw_ Q E s:=by
 obtain⟨o,ho,hc,hd⟩:=D;unfold dictSet;refine JS (HM (sK hu hk λtk=>?_));unfold dictSetHashed;refine JS (HM yu_);cases hj:Mb ks k with
 |none=>
  rw[hj]at h;exact HM (LS (RU (s:=d1!) ho hd (h _ tk (yx!).2 dY!) (hz:=kn!)))
 |some j=>
  rw[hj]at h;exact HM (LS (HM (wpAny_updateDict (s:=d1!) ho hd (wpAny_point (h _ tk (yx!).1 dY!)))))
def pN{Q:l_}(hu:an!)(D:hj_)(x:km_)(hk:d0!)(hl:o0_)
  (J:∀j e tk,Mb ks k=some j->es[j]?=some e->Q e.val {s with toks:=tk})
  (h2:∀h' tk,Mb ks k=none->Oa h' a (es++[⟨mkHash P w k,u,v⟩]) bu!->Heap.SameBut a s.heap h'->Q v {s with heap:=h',toks:=tk}):wpAny C! A (dictSetDefault a u v) Q E s:=by
 obtain⟨o,ho,hc,hd⟩:=D;unfold dictSetDefault;refine JS oZ_;cases hj:Mb ks k with
 |none=>
  exact HM (LS (HM (RU (s:=d1!) ho hd (HP (h2 _ tk hj (sU ho hc hd b_).2 dY!)) (hz:=kn!))))
 |some j=>
  have au:j<ae!:=by
   have:=(IJ.mp (pB hj).1).1;rw[<-x.len]at this;simpa using this
  refine HM yy!;rw[NB,IL au];exact HM (LS (HP (J j _ tk hj (IL au))))
def c8u{j:Nat}{e:DictEntry}{Q:Option DictEntry->Shared->Prop}(hu:an!)(D:hj_)(x:km_)(hk:d0!)(hl:o0_)(hj:yj!)(he:es[j]?=some e)
  (h:∀h' tk,Oa h' a yy_ bu!->Heap.SameBut a s.heap h'->Q ik! {s with heap:=h',toks:=tk}):wpAny C! A yz! Q E s:=by
 obtain⟨o,ho,hc,hd⟩:=D;unfold Builtin.Dict.takeOut;refine JS oZ_;rw[hj];refine HM yy!;rw[NB,he];have au:j<ae!:=(IJ.mp he).1;refine HM (RU (s:=d1!) ho hd (HP (h _ tk (sU ho hc hd ?_).2 dY!)) (hz:=kn!) (hf:=?_))
 .rw[Array.eraseIdxIfInBounds,dif_pos yA!];simp
 .rw[Array.eraseIdxIfInBounds];split
  .rw[Array.size_eraseIdx];omega
  .omega
end
def Lj:List D->Option (List L2.Key)
 |[]=>some []
 |.int i::r=>(Lj r).map (Sum.inl i::·)
 |.str x::r=>(Lj r).map (Sum.inr x::·)
 |_::_=>none
def Df:D->Option MK
 |.non=>some none
 |.int i=>some (some (.inl (.inl i)))
 |.str x=>some (some (.inl (.inr x)))
 |.tup xs=>(Lj xs).map λks=>some (.inr ks)
 |_=>none
def xX:∀{xs ys:b!} {ks:oT_},Lj xs=some ks->Lj ys=some ks->xs=ys
 |[],ys,ks,h,h'=>by
  cases h;cases ys with
  |nil=>rfl
  |cons y r=>cases y<;>simp[Lj]at h'
 |x::xs,[],ks,h,h'=>by
  cases h';cases x<;>simp[Lj]at h
 |x::xs,y::ys,ks,h,h'=>by
  cases x<;>simp only[Lj]at h<;>first|(cases h;done)|skip
  all_goals (obtain⟨l,e1,rfl⟩:=IA.mp h)
  all_goals (cases y<;>simp only[Lj]at h'<;>first|(cases h';done)|skip)
  all_goals (obtain⟨l',e2,e3⟩:=IA.mp h')
  all_goals (injection e3 with e4 e5)
  all_goals first|(injection e4;done)|skip
  all_goals (injection e4 with e4;subst e4 e5;rw[xX e1 e2])
def b0n(h:dh!)(h':bM!):x=y:=by
 cases x<;>simp only[Df]at h<;>first|(cases h;done)|skip
 all_goals (cases y<;>simp only[Df]at h'<;>first|(cases h';done)|skip)
 all_goals first
  |rfl
  |(cases h;cases h';rfl)
  |(cases h;cases h')
  |(cases h;obtain⟨l,e1,e2⟩:=IA.mp h';cases e2)
  |(cases h';obtain⟨l,e1,e2⟩:=IA.mp h;cases e2)
  |(obtain⟨l,e1,e2⟩:=IA.mp h;obtain⟨l',e3,e4⟩:=IA.mp h';cases e2;cases e4;rw[xX e1 e3])
def Cn(K:zY!)(G:Hp)(d:D)(u:xT!):Prop:=∃v,Aq K G d v/\Bl v u
def Cn.mono{K:zY!}{G G':Hp}(e:kn_)(h:Cn K G d u):Cn K G' d u:=let⟨v,J,h2⟩:=h;⟨v,J.mono e,h2⟩
def a2u{K:zY!}{G:Hp}:∀{ds:b!} {vs:m_} {ks:oT_},Al K G ds vs->Lj ds=some ks->vs=ks.map kV
 |[],vs,ks,r,e=>by cases cG r;cases e;rfl
 |d::ds,vs,ks,r,e=>by
  obtain⟨v,t,rfl,r1,r2⟩:=bF r;cases d<;>simp only[Lj]at e<;>first|(cases e;done)|skip
  all_goals (obtain⟨l,e1,rfl⟩:=IA.mp e;rw[a2u r2 e1])
  .cases aZ r1;rfl
  .cases bW r1;rfl
def qB{X:Cx}{Y:k_}{Z:St}{G H:Hp}{s:z6!}(I:d!)(sub:E!)(r:bM_)(e:bh_):Jw X.prog X.w s.heap k u:=by
 obtain⟨v,r,ru⟩:=r;cases d<;>simp only[Df]at e<;>first|(cases e;done)|skip
 .cases e;cases dR r;exact ru
 .cases e;cases aZ r;obtain⟨t,rfl⟩:=ru;exact xY _ _
 .cases e;cases bW r;obtain⟨t,rfl⟩:=ru;exact qR _ _
 .obtain⟨ks,e1,rfl⟩:=IA.mp e;obtain⟨a,vs,rfl,q,rr⟩:=bN r;cases ru;show"#/";rw[a2u rr e1]at rv;exact⟨a,rfl,o,a1!,n,J,h2,h3,by simpa using qS rv⟩
open Classical in
nonrec def kget:List ap!->D->Option D
 |[],_=>none
 |(k,v)::r,d=>if k=d then some v else kget r d
open Classical in
def Bg:List ap!->D->D->List ap!
 |[],d,v=>[(d,v)]
 |(k,x)::r,d,v=>if k=d then(k,v)::r else(k,x)::Bg r d v
open Classical in
def Gh:List ap!->D->List ap!
 |[],_=>[]
 |(k,x)::r,d=>if k=d then r else(k,x)::Gh r d
section
variable{P:z7!}{w:yO!}{K:zY!}{G G':Hp}
variable (P w K G)in
def CP(p:D×D)(e:DictEntry):Prop:=Cn K G p.1 e.key/\Cn K G p.2 e.val/\∃k,Df p.1=some k/\e.hash=mkHash P w k
variable (P w K G)in
def Hh(h1:j!)(es:Y_):Prop:=Paired (CP P w K G) h1 es/\(fm!).Nodup
def Hh.mono{es:Y_}(e:kn_)(h:fm_):Hh P w K G' h1 es:=
 ⟨Paired.mapP h.1 λp q z=>⟨z.1.mono e,z.2.1.mono e,z.2.2⟩,h.2⟩
def Hy(h1:j!):List MK:=h1.map λp=>(Df p.1).getD none
def fW{α β:Type}{F:cJ!}:∀{l:O!} {m:dr!} {i:Nat} {a:α},Paired F l m->l[i]?=some a->∃b,m[i]?=some b/\F a b
 |_,_,_,_,.nil,e=>by simp at e
 |_,_,0,_,.cons r _,e=>by simp at e;subst e;exact lf!
 |_,_,i+1,a,.cons _ t,e=>by
  obtain⟨b,J,h2⟩:=fW (i:=i) (a:=a) t cI_;exact⟨b,lf_,h2⟩
def iZ{α β:Type}{F:cJ!}:∀{l l':O!} {m m':dr!},Paired F l m->Paired F l' m'->Paired F (l++l') (m++m')
 |_,_,_,_,.nil,h=>h
 |_,_,_,_,.cons r t,h=>.cons r (iZ t h)
def mU{α β:Type}{F:cJ!}{f:α->α}{g:β->β}:∀{l:O!} {m:dr!} (j:Nat),Paired F l m->(∀a b,l[j]?=some a->m[j]?=some b->F a b->F (f a) (g b))->Paired F (l.modify j f) (m.modify j g)
 |_,_,j,.nil,_=>by simpa using Paired.nil
 |_,_,0,.cons r t,h=>.cons (h _ _ rfl rfl r) t
 |_,_,j+1,.cons r t,h=>.cons r (mU j t λa b e1 e2=>h a b (by simpa using e1) (by simpa using e2))
def oI{α β:Type}{F:cJ!}:∀{l:O!} {m:dr!} (j:Nat),Paired F l m->Paired F (l.eraseIdx j) (m.eraseIdx j)
 |_,_,_,.nil=>.nil
 |_,_,0,.cons _ t=>t
 |_,_,j+1,.cons r t=>.cons r (oI j t)
def Hh.ents{X:Cx}{Y:k_}{Z:St}{H:Hp}{s:z6!}{es:Y_}(I:d!)(sub:E!)(h:Hh X.prog X.w X.K G h1 es):Ny X.prog X.w s.heap es.toArray fn!:=by
 obtain⟨J,h2⟩:=h;refine⟨by simp[Hy,NT J],λi e k he hk=>?_,?_⟩
 .rw[NB]at he;unfold Hy at hk;rw[JN]at hk;obtain⟨p,hp,rfl⟩:=IA.mp hk;obtain⟨e',iz,q1,_,k',q2,q3⟩:=fW J hp;rw[he]at iz;cases iz;rw[q2];exact⟨qB I sub q1 q2,q3⟩
 .have j4:∀{l:j!} {m:Y_},Paired (CP X.prog X.w X.K G) l m->(d1_).Nodup->(Hy l).Nodup:=by
   intro l m hp
   induction hp with
   |nil=>intro _;exact LN
   |@cons p e l m q t ih=>
    intro nd;rw[IE,IQ]at nd;show(_::Hy l).Nodup;rw[IQ];refine⟨dh_,ih nd.2⟩;obtain⟨p',bx,e'⟩:=IU.mp z;obtain⟨_,_,k,hk,_⟩:=q;obtain⟨i,hi⟩:=NW.mp bx;obtain⟨_,_,_,_,k',cz,_⟩:=fW t hi;dsimp only at e';rw[hk,cz]at e';have:k'=k:=e';subst this;exact nd.1 (IU.mpr ⟨p',bx,b0n cz hk⟩)
  exact j4 J h2
def Hh.look{h1:j!}{es:Y_}(h:fm_)(hd:bh_):
  (Mb fn! k=none/\kget h1 d=none/\(∀v,Bg h1 d v=h1++[(d,v)])/\d∉h1.map c_)\/∃j x e,Mb fn! k=some j/\h1[j]?=some (d,x)/\es[j]?=some e/\kget h1 d=some x/\Cn K G x e.val/\(∀v,Bg h1 d v=h1.modify j λp=>(p.1,v))/\Gh h1 d=h1.eraseIdx j:=by
 obtain⟨J,h2⟩:=h
 induction J with
 |nil=>exact .inl ⟨rfl,rfl,cj_,Q!⟩
 |@cons p e l m q t ih=>
  obtain⟨y,z⟩:=p;rw[IE,IQ]at h2;obtain⟨_,q2,k',q3,_⟩:=q;have q3:Df y=some k':=q3;have nj:Hy ((y,z)::l)=k'::Hy l:=by unfold Hy;rw[IE,q3];rfl
  by_cases hy:y=d
  .subst hy;rw[hd]at q3;cases q3;refine .inr ⟨0,z,e,?_,rfl,rfl,by simp[kget],q2,λv=>by simp[Bg,List.modify],by simp[Gh]⟩;rw[nj];unfold Mb;rw[List.findIdx?_cons];simp
  .have hne:k'≠k:=λe=>hy (b0n q3 (e▸hd));have cz:Mb (Hy ((y,z)::l)) k=(Mb (Hy l) k).map (·+1):=by
    rw[nj];unfold Mb;rw[List.findIdx?_cons];simp[hne]
   obtain⟨i1,i2,i3,i4⟩|⟨j,x,e',i1,i2,i3,i4,i5,i6,i7⟩:=ih h2.2
   .refine .inl ⟨yC!,by simp[kget,hy,i2],λv=>by simp[Bg,hy,i3 v],?_⟩;rw[IE,HV,OZ];exact⟨λe=>hy e.symm,i4⟩
   .exact .inr ⟨j+1,x,e',yC!,by simpa using i2,by simpa using i3,by simp[kget,hy,i4],i5,λv=>by simp[Bg,hy,i6 v],by simp[Gh,hy,i7]⟩
def Hh.put{es:Y_}(h:fm_)(hd:bh_)(ru:Cn K G d u)(rv:Cn K G x v):Hh P w K G o2! (Yb es (Mb fn! k) dg_ u v):=by
 obtain⟨i1,i2,i3,i4⟩|⟨j,y,e',i1,i2,i3,i4,i5,i6,i7⟩:=h.look hd
 .rw[i1,i3];refine⟨iZ h.1 (.cons ⟨ru,rv,k,hd,rfl⟩ .nil),?_⟩;rw[IZ,JL];refine⟨h.2,Q!,λa ha b hb e=>?_⟩;simp at hb;subst hb e;exact i4 ha
 .rw[i1,i6];refine⟨mU j h.1 λa b _ _ q=>⟨q.1,rv,q.2.2⟩,?_⟩;have:∀(l:j!) (j:Nat),(l.modify j λp=>(p.1,x)).map c_=l.map c_:=by
   intro l
   induction l with
   |nil=>intro j;simp
   |cons p l ih=>
    intro j;cases j with
    |zero=>simp
    |succ j=>simp[ih j]
  rw[this];exact h.2
def Hh.del{h1:j!}{es:Y_}{j:Nat}(h:fm_):Hh P w K G (h1.eraseIdx j) yy_:=by refine⟨oI j h.1,?_⟩;exact h.2.sublist ((List.eraseIdx_sublist h1 j).map _)
end
inductive Cw where
 |lst (xs:b!)|dct (h1:j!) (ep:Nat)|obj (C:xz!) (fs:aK_)
abbrev Mh:=Addr->Option Cw
nonrec def mup(M:Mh)(a:xz!)(c:Cw):Mh:=λb=>if b=a then some c else M b
def mup_same{M:Mh}{a:xz!}{c:Cw}:mup M a c a=some c:=by unfold mup;rw[A!]
def mup_ne{M:Mh}{a b:xz!}{c:Cw}(h:b≠a):mup M a c b=M b:=by unfold mup;rw[IF h]
nonrec def dE(a:xz!)(es:Y_)(ep:Nat):HO:=.ext λh=>Oa h a es ep/\dq_=false/\ae!<=big
def Nv(K:zY!)(G:Hp):List b5!->List dq!->Prop:=Paired λp q=>p.1=q.1/\Aq K G p.2 q.2
section
variable(P:z7!)(w:yO!)(K:zY!)
def Gw(G H:Hp)(a:xz!):Cw->Prop
 |.lst xs=>∃vs,H a=some cr!/\Al K G xs vs
 |.dct h1 ep=>∃es,H a=some kp!/\Hh P w K G h1 es
 |.obj C fs=>∃dx vs,H a=some yD!/\Nv K G fs vs
structure MR(M:Mh)(G H:Hp):Prop where
 cell:∀a c,M a=some c->G a=none/\Gw P w K G H a c
end
structure XM(M:Mh)(G H:Hp)(M':Mh)(G' H':Hp):Prop where
 g:Ba G G'
 sub:Ba G' H'
 new:∀b,G' b≠none->G b≠none\/H b=none
 keep:∀b o,H b=some o->M b=none->H' b=some o
 dom:∀b,M' b≠none->M b≠none\/H b=none
 cells:∀b,M b≠none->M' b≠none
def XM.refl{M:Mh}{G H:Hp}(s:E!):XM M G H M G H:=⟨eX!,s,ju_,λ_ _ h _=>h,ju_,λ_ h=>h⟩
def XM.free{M M':Mh}{G H G' H':Hp}{b:xz!}(x:kp_)(hM:M b=none)(h:H' b=none):H b=none:=by
 cases e:H b with
 |none=>rfl
 |some o=>rw[x.keep b o e hM]at h;cases h
section
variable{P:z7!}{w:yO!}{K:zY!}{M M1 M2:Mh}{G H G' H' G1 H1 G2 H2:Hp}
def Nv.mono{fs:aK_}{vs:eg!}(e:kn_)(h:Nv K G fs vs):Nv K G' fs vs:=Paired.mapP h λ_ _ z=>⟨z.1,z.2.mono e⟩
def Gw.mono{a:xz!}{c:Cw}(e:kn_)(h:yD_)(hH:H' a=H a):Gw P w K G' H' a c:=by
 cases c with
 |lst xs=>obtain⟨vs,J,h2⟩:=h;exact⟨vs,o2_,o3!⟩
 |dct h1 ep=>obtain⟨es,J,h2⟩:=h;exact⟨es,o2_,o3!⟩
 |obj C fs=>obtain⟨dx,vs,J,h2⟩:=h;exact⟨dx,vs,o2_,o3!⟩
def Gw.has{a:xz!}{c:Cw}(h:yD_):H a≠none:=by
 cases c with
 |lst xs=>obtain⟨vs,J,h2⟩:=h;rw[J];simp
 |dct h1 ep=>obtain⟨es,J,h2⟩:=h;rw[J];simp
 |obj C fs=>obtain⟨dx,vs,J,h2⟩:=h;rw[J];simp
def MR.has(m:b7_){c:xz!}(h:M c≠none):H c≠none:=by
 cases e:M c with
 |none=>exact absurd e h
 |some q=>exact(m.cell c q e).2.has
def XM.trans(a:XM M G H M1 G1 H1)(b:XM M1 G1 H1 M2 G2 H2)(m:yE!):XM M G H M2 G2 H2 where
 g:=a.g.trans b.g
 sub:=b.sub
 new:=λc h=>by
  obtain z|z:=b.new c h
  .exact a.new c z
  .cases hM:M c with
   |none=>exact .inr (a.free hM z)
   |some q=>exact absurd z (m.has (a.cells c yE_))
 keep:=λc o h hM=>by
  refine b.keep c o (a.keep c o h hM) ?_;cases e:M1 c with
  |none=>rfl
  |some q=>
   rcases a.dom c kq! with z|z
   .exact absurd hM z
   .rw[h]at z;cases z
 dom:=λc h=>by
  obtain z|z:=b.dom c h
  .exact a.dom c z
  .cases hM:M c with
   |none=>exact .inr (a.free hM z)
   |some q=>exact .inl b_
 cells:=λc h=>b.cells c (a.cells c h)
def XM.ext(x:jv_):XM M G H M G' H':=⟨x.g,x.sub,x.new,λb o h _=>x.h b o h,ju_,λ_ h=>h⟩
def MR.ext(m:b7_)(x:jv_):MR P w K M G' H':=⟨λa c e=>by
 obtain⟨J,h2⟩:=m.cell a c e;have hn:H a≠none:=h2.has;refine yF_
 .cases q:G' a with
  |none=>rfl
  |some o=>
   rcases x.new a cn_ with z|z
   .exact absurd J z
   .exact absurd z hn
 .cases q:H a with
  |none=>exact absurd q hn
  |some o=>exact x.h a o q⟩
end
structure Si(P:z7!)(w:yO!)(K:zY!)(own:k!)(G H:Hp)(Z:St)(ρ:Ad)(M:Mh):Prop where
 or:OR K own G H Z ρ
 mr:MR P w K M G H
 dj:∀i∈own,∀p,Z[i]?=some b2_->M p=none
section
variable{P:z7!}{w:yO!}{K:zY!}{own:List Nat}{M M' M1 M2:Mh}{G H G' H' G1 H1 G2 H2:Hp}{Z:St}{ρ:Ad}
def OR.growM(h:b3!)(x:kp_)(dj:∀i∈own,∀p,Z[i]?=some b2_->M p=none):OR K own G' H' Z ρ where
 sub:=x.sub
 len:=h.len
 at_:=λi d q n=>let⟨v,J,h2⟩:=h.at_ i d q n;vJ!
 own_:=λi hi=>by
  obtain⟨p,ds,vs,J,h2,h3,h4,h5⟩:=h.own_ i hi;refine⟨p,ds,vs,J,h2,x.keep _ _ h3 (dj i hi p h2),?_,h5.mono x.g⟩;cases q:G' p with
  |none=>rfl
  |some o=>
   rcases x.new p cn_ with z|z
   .exact absurd h4 z
   .rw[h3]at z;cases z
 dis:=h.dis
def Si.grow(s:hl!)(x:kp_)(m:wy_):Si P w K own G' H' Z ρ M':=
 ⟨s.or.growM x s.dj,m,λi hi p e=>by
  cases q:M' p with
  |none=>rfl
  |some c=>
   obtain⟨p',ds,vs,J,h2,h3,h4,h5⟩:=s.or.own_ i hi;rw[e]at h2;cases h2;rcases x.dom p cn_ with z|z
   .exact absurd (s.dj i hi p e) z
   .rw[h3]at z;cases z⟩
end
abbrev WE:=Ad->Mh->o3_->Prop
abbrev WA:=Ad->Mh->wz_->Prop
abbrev WT:=Ad->Mh->(Bool->Mh->Prop)->Prop
section
variable(P:z7!)(w:yO!)(K:zY!)(own:List Nat)
inductive AX(f:WE)(Z:St)(H:Hp)(Q:VK):Prop
 |mk (G:Hp) (ρ:Ad) (M:Mh) (R:r_) (st:hl!) (e:hl_) (k:∀d M' v G' H',R d M'->XM M G H M' G' H'->MR P w K M' G' H'->Aq K G' d v->Q v H'):AX f Z H Q
inductive FQ(f:WA)(Z:St)(H:Hp)(Q:cN!):Prop
 |mk (G:Hp) (ρ:Ad) (M:Mh) (R:o4_) (st:hl!) (e:hl_) (k:∀d M' v G' H',R d M'->XM M G H M' G' H'->MR P w K M' G' H'->Al K G' d v->Q v H'):FQ f Z H Q
inductive Yn(f:WT)(Z:St)(H:Hp)(Q:du_):Prop
 |mk (G:Hp) (ρ:Ad) (M:Mh) (R:d2!) (st:hl!) (e:hl_) (k:∀d M' G' H',R d M'->XM M G H M' G' H'->MR P w K M' G' H'->Q d H'):Yn f Z H Q
end
structure ME(X:Cx)(own:k!)(e:Expr)(f:WE):Prop where
 ok:PE X e (AX X.prog X.w X.K own f)
structure MA(X:Cx)(own:k!)(es:bk_)(f:WA):Prop where
 ok:PA X es (FQ X.prog X.w X.K own f)
structure MT(X:Cx)(own:k!)(e:Expr)(f:WT):Prop where
 ok:PT X e yI!
structure MW(X:Cx)(own:k!)(e:Expr)(f:WT):Prop where
 ok:PW X e yI!
nonrec def wl(f:e_):WE:=λρ M R=>match f ρ with|some d=>R d M|none=>False
def Dd(f:W_):WT:=λρ M R=>match f ρ with|some d=>R d M|none=>False
section
variable{X:Cx}{own:List Nat}{e a b c:Expr}{es rest:List Expr}{pos:Pos}{f fa fb fc:WE}{fs:WA}{ft fu:WT}{g:Ad->Option D}{gs:Ad->Option (List D)}{gt:Ad->Option Bool}
def eX{t:TE}(h:id_)(hw:∀Z G H Q ρ M R,Si X.prog X.w X.K own G H Z ρ M->f ρ M R->(∀d M' v G' H',R d M'->XM M G H M' G' H'->MR X.prog X.w X.K M' G' H'->Aq X.K G' d v->Q v H')->t Z H Q):ME X own e f:=
 yJ!
def c5n{t:TA}(h:gf!)(hw:∀Z G H Q ρ M R,Si X.prog X.w X.K own G H Z ρ M->fs ρ M R->(∀d M' v G' H',R d M'->XM M G H M' G' H'->MR X.prog X.w X.K M' G' H'->Al X.K G' d v->Q v H')->t Z H Q):MA X own es fs:=
 ⟨λp Y s Z H Q I ⟨G,ρ,M,R,st,e,k⟩=>h p Y s Z H Q I o5_⟩
def b0m{t:TT}(h:PT X e t)(hw:yJ_):MT X own e ft:=
 yJ!
def c5j{t:TT}(h:PW X e t)(hw:yJ_):MW X own e ft:=
 ⟨λwh Y s Z H Q I ⟨G,ρ,M,R,st,e,k⟩=>h wh Y s Z H Q I o5_⟩
def c0u{ρ:Ad}{M:Mh}{R:r_}(h:wl g ρ M R):∃d,g ρ=some d/\R d M:=by
 unfold wl at h;split at h
 .exact yK_
 .exact h.elim
def b4k{ρ:Ad}{M:Mh}{R:d2!}(h:Dd gt ρ M R):∃d,gt ρ=some d/\R d M:=by
 unfold Dd at h;split at h
 .exact yK_
 .exact h.elim
def aC(h:DE X own e g):ME X own e (wl g):=eX h.ok λZ G H Q ρ M R st e' k=>by
 obtain⟨d,e1,e2⟩:=c0u e';exact⟨G,ρ,d,st.or,e1,λv G' H' x r=>k d M v G' H' e2 (.ext x) o6! r⟩
def eW(h:DT X own e gt):MT X own e (Dd gt):=b0m h.ok λZ G H Q ρ M R st e' k=>by
 obtain⟨d,e1,e2⟩:=b4k e';exact⟨G,ρ,d,st.or,e1,λG' H' x=>k d M G' H' e2 (.ext x) o6!⟩
def Af:WA:=λ_ M R=>R [] M
def Ab(f:WE)(fs:WA):WA:=λρ M R=>f ρ M λd M1=>fs ρ M1 λds M2=>R dP_ M2
def aO:MA X own [] Af:=c5n fP λZ G H Q ρ M R st e k=>k [] M [] G H e kt! st.mr Al.nil
def aE(h:bu_)(hs:hm!)(hst:ag!:=by rfl):MA X own aD_ (Ab f fs):=
 c5n wb_ λZ G H Q ρ M R st e' k=>⟨G,ρ,M,_,st,e',λd M1 v G1 H1 r1 x1 m1 q1=>⟨G1,ρ,M1,_,st.grow x1 m1,r1,λds M2 vs G2 H2 r2 x2 m2 q2=>
  k _ M2 _ G2 H2 r2 b8_ m2 (Al.cons bv! q2)⟩⟩
def Xc(P:z7!)(w:yO!)(K:zY!)(r:R2)(g:bi!):Prop:=∀{x y:V} {dx dy d:D} {M:Mh} {G H:Hp} {Q:VK},Ba G H->MR P w K M G H->Aq K G dx x->Aq K G dy y->g M dx dy=some d->jy!->r x y H Q
def Ic.m{P:z7!}{w:yO!}{K:zY!}{r:R2}{g:aY_}(h:Ic K r g):Xc P w K r (λ_=>g):=λs _ rx ry e k=>h s rx ry e k
nonrec def w2(g:bi!)(fa fb:WE):WE:=λρ M R=>fa ρ M λx M1=>fb ρ M1 λy M2=>match g M2 x y with|some d=>R d M2|none=>False
def c0z{r:R2}{gm:bi!}(hg:fo_){Z:St}{G H:Hp}{Q:VK}{ρ:Ad}{M:Mh}{R:r_}(st:yN!)(e:w2 gm fa fb ρ M R)
  (k:∀d M' v G' H',R d M'->XM M G H M' G' H'->MR X.prog X.w X.K M' G' H'->Aq X.K G' d v->Q v H'):AN r (AX X.prog X.w X.K own fa) (AX X.prog X.w X.K own fb) Z H Q:=
 ⟨G,ρ,M,_,st,e,λx M1 u G1 H1 r1 x1 m1 q1=>⟨G1,ρ,M1,_,st.grow x1 m1,r1,λy M2 v G2 H2 r2 x2 m2 q2=>by
  have r2:yN_:=r2;split at r2
  .show"!B"
  .exact r2.elim⟩⟩
def xS{op:Operator}{r:R2}{gm:bi!}(ho:mj_)(hg:fo_)(ha:aw!)(hb:bN!):ME X own mk! hm_:=
 eX vY! λZ G H Q ρ M R st e k=>c0z hg st e k
def kB{op:CmpOp}{r:R2}{gm:bi!}(ho:bT!)(hg:fo_)(ha:aw!)(hb:bN!)(hm:dv_):ME X own dw! hm_:=
 eX vY_ λZ G H Q ρ M R st e k=>c0z hg st e k
def cH{r:R2}{gm:bi!}(hr:gD_)(hg:fo_)(ha:aw!)(hb:bN!)(hs:Nu b):ME X own i5_ hm_:=
 eX vZ! λZ G H Q ρ M R st e k=>c0z hg st e k
nonrec def wT(f:WE):WT:=λρ M R=>f ρ M λd M1=>match d with|.bl b=>R b M1|_=>False
def dQ{op:CmpOp}{r:R2}{gm:bi!}(ho:bT!)(hg:fo_)(ha:aw!)(hb:bN!)(hm:dv_):MT X own dw! (wT hm_):=
 b0m vZ_ λZ G H Q ρ M R st e k=>c0z (own:=own) (Q:=v0!) hg st e λd M' v G' H' r' x' m' q'=>by
  cases d<;>first|exact r'.elim|skip
  cases cS q';exact yO_
def fR(h:bu_)(he:ie!:=by intro _;rfl):MT X own e (wT f):=
 b0m (a6u h.ok he) λZ G H Q ρ M R st e k=>⟨G,ρ,M,_,st,e,λd M' v G' H' r' x' m' q'=>by
  cases d<;>first|exact r'.elim|skip
  cases cS q';exact yO_⟩
def Fp(ft fu:WT):WT:=λρ M R=>ft ρ M λb M1=>if b then fu ρ M1 R else R false M1
def Zh(ft fu:WT):WT:=λρ M R=>ft ρ M λb M1=>if b then R true M1 else fu ρ M1 R
def Kl(ft:WT):WT:=λρ M R=>ft ρ M λb M1=>R (!b) M1
def iT(h:hn!):MW X own lQ_ ft:=v2_
def b7j(h:hn!):MW X own lR! ft:=v3!
def lP(ha:hn!)(hb:MW X own el_ fu):MW X own em! (Fp ft fu):=
 c5j v4! λZ G H Q ρ M R st e k=>⟨G,ρ,M,_,st,e,λx M1 G1 H1 r1 x1 m1=>by
  cases x with
  |true=>exact kD yP_
  |false=>exact kW yQ!⟩
def c5i(ha:hn!)(hb:MW X own em_ fu):MW X own en! (Zh ft fu):=
 c5j v5! λZ G H Q ρ M R st e k=>⟨G,ρ,M,_,st,e,λx M1 G1 H1 r1 x1 m1=>by
  cases x with
  |false=>exact kW yP_
  |true=>exact kD yQ!⟩
def wF(h:MW X own e ft):MT X own e ft:=⟨h.ok.pt⟩
def qN(h:hn!):MT X own en_ (Kl ft):=
 b0m (b5r h.ok) λZ G H Q ρ M R st e k=>⟨G,ρ,M,_,st,e,λx M1 G1 H1 r1 x1 m1=>k _ M1 G1 H1 r1 x1 m1⟩
def Ka(fa fb:WE):WE:=λρ M R=>wT fa ρ M λb M1=>if b then fb ρ M1 R else R ab! M1
def Wb(fa fb:WE):WE:=λρ M R=>wT fa ρ M λb M1=>if b then R B! M1 else fb ρ M1 R
def Wc(fa:WE):WE:=λρ M R=>wT fa ρ M λb M1=>R (.bl (!b)) M1
def qO{op:BoolOp}(h:aw!):ME X own lS! fa:=v6_
def uQ(ha:aw!)(hb:ME X own el_ fb):ME X own em! (Ka fa fb):=
 eX v7! λZ G H Q ρ M R st e k=>⟨G,ρ,M,_,st,e,λd M1 v G1 H1 r1 x1 m1 q1=>by
  cases d<;>first|exact r1.elim|skip
  rename_i x;cases cS q1;refine jz_;cases x with
  |true=>exact kD ku!
  |false=>exact kW yR!⟩
def c5m(ha:aw!)(hb:ME X own em_ fb):ME X own en! (Wb fa fb):=
 eX v9! λZ G H Q ρ M R st e k=>⟨G,ρ,M,_,st,e,λd M1 v G1 H1 r1 x1 m1 q1=>by
  cases d<;>first|exact r1.elim|skip
  rename_i x;cases cS q1;refine jz_;cases x with
  |false=>exact kW ku!
  |true=>exact kD yR!⟩
def c7t(ha:aw!):ME X own en_ (Wc fa):=
 eX (b6j ha.ok) λZ G H Q ρ M R st e k=>⟨G,ρ,M,_,st,e,λd M1 v G1 H1 r1 x1 m1 q1=>by
  cases d<;>first|exact r1.elim|skip
  cases cS q1;exact⟨_,rfl,k _ M1 _ G1 H1 r1 x1 m1 Aq.bl⟩⟩
def Zi(ft:WT)(fa fb:WE):WE:=λρ M R=>ft ρ M λb M1=>if b then fa ρ M1 R else fb ρ M1 R
def b7r(hc:ku_)(ha:aw!)(hb:bN!):ME X own lT_ (Zi ft fa fb):=
 eX wb! λZ G H Q ρ M R st e k=>⟨G,ρ,M,_,st,e,λx M1 G1 H1 r1 x1 m1=>by
  cases x with
  |true=>exact kD ku!
  |false=>exact kW ku!⟩
def Rm(fs:WA):WE:=λρ M R=>fs ρ M λds M1=>f_<=1000/\R c7_ M1
def a0f{n:Nat}(h:hm!):ME X own (.Tuple es n pos) (Rm fs):=
 eX (b6g h.ok) λZ G H Q ρ M R st e k=>⟨G,ρ,M,_,st,e,λds M1 vs G1 H1 r1 x1 m1 q1=>⟨by rw[<-aI q1];exact eY r1.1,λp hp=>
  k _ M1 _ _ _ r1.2 (x1.trans (.ext yS_) m1) (m1.ext yS_) (fH (x1.sub.free hp) q1)⟩⟩
end
section
variable{P:z7!}{w:yO!}{K:zY!}{M:Mh}{G H:Hp}{p a:xz!}{o:HO}{c c0:Cw}
def MR.nocell(m:b7_)(h:cq_):M p=none:=by
 cases e:M p with
 |none=>rfl
 |some q=>exact absurd h (m.has kq!)
def XM.laid(s:E!)(hp:cq_):XM M G H (mup M p c) G eW_:=by
 show"#0";refine⟨eX!,λb u e=>by rw[aY (ne (s b u e))];exact s b u e,db_,λb u e _=>by rw[aY (ne e)];exact e,bd!,bd!⟩
 .by_cases hb:b=p
  .subst hb;exact .inr hp
  .rw[cD_]at h;exact .inl h
 .by_cases hb:b=p
  .subst hb;rw[mup_same];simp
  .rw[cD_];exact h
def MR.laid(m:b7_)(hp:cq_)(s:E!)(h:Gw P w K G eW_ p c):MR P w K (mup M p c) G eW_:=⟨λb q e=>by
 by_cases hb:b=p
 .show"#$";exact⟨s.free hp,h⟩
 .rw[cD_]at e;obtain⟨J,h2⟩:=m.cell b q e;exact yT!⟩
def XM.write(m:b7_)(s:E!)(ha:M a=some c0):XM M G H (mup M a c) G cJ_:=by
 have hG:=(m.cell a c0 ha).1;refine⟨eX!,λb u e=>by rw[aY (cC e hG)];exact s b u e,db_,λb u e hb=>?_,bd!,bd!⟩
 .have:b≠a:=λz=>by subst z;rw[ha]at hb;cases hb
  rw[aY this];exact e
 .show"#2"
  .subst hb;exact .inl (by rw[ha];simp)
  .rw[cD_]at h;exact .inl h
 .show"#2"
  .subst hb;rw[mup_same];simp
  .rw[cD_];exact h
def MR.write(m:b7_)(ha:M a=some c0)(h:Gw P w K G cJ_ a c):MR P w K (mup M a c) G cJ_:=⟨λb q e=>by
 show"#2"
 .show"#$";exact⟨(m.cell _ c0 ha).1,h⟩
 .rw[cD_]at e;obtain⟨J,h2⟩:=m.cell b q e;exact yT!⟩
end
open Classical in
def Hc(h1:j!)(d:D)(ep:Nat):Nat:=if(di!).isSome then ep else ep+1
def GL(K:zY!)(G:Hp):Option D->Option Value->Prop
 |some d,some u=>Cn K G d u
 |none,none=>True
 |_,_=>False
section
variable{X:Cx}{Y:List (Addr×Obj)}{Z:St}{G H:Hp}{s:z6!}{M:Mh}{a:xz!}{h1:List (D×D)}{ep:Nat}{A:x8!}{E:Value->Shared->Prop}{d x:D}{k:MK}{u v:xT!}
def eA(I:d!)(m:bv_)(sub:E!)(e:b9!):∃es,H a=some kp!/\Hh X.prog X.w X.K G h1 es/\Oa s.heap a es ep/\dq_=false/\ae!<=big/\Ny X.prog X.w s.heap es.toArray fn!:=by obtain⟨es,J,h2⟩:=(m.cell a _ e).2;obtain⟨⟨h3,h4,h5⟩,_⟩:=(show Eo X.prog X.w H s.heap a kp! from I.hok a _ J);exact⟨es,J,h2,h3,h4,h5,h2.ents I sub⟩
def a1q{t':Nat}{es a7:Y_}{bg:Nat}(I:d!)(e:H a=some kp!)(D':Oa h' a a7 bg)(hs:ui_)(hn:dq_=false)(hl:a7.length<=big):Inv X Y Z (upd H a (dE a a7 bg)) {s with heap:=h',toks:=t'}:=by refine c4j I sM! hs (let⟨o,h,_⟩:=D';pb_) ⟨⟨D',hn,hl⟩,let⟨o,h,_⟩:=D';pb_,yU!⟩;obtain⟨⟨o,z1,z2,z3⟩,z4⟩:=z;exact kw!
def a1s{Q:cA_}(hu:an!)(I:d!)(m:bv_)(sub:E!)(e:b9!)(r:bM_)(hk:bh_)
  (h:∀o s',Inv X Y Z H s'->GL X.K G di! o->Q o s'):wpAny e! A (dictGet a u) Q E s:=by
 obtain⟨es,J,h2,h3,h4,h5,h6⟩:=eA I m sub e;refine d1x hu h3 h6 ho_ λtk=>h _ _ ey! ?_;obtain⟨i1,i2,i3,i4⟩|⟨j,y,e',i1,i2,i3,i4,i5,i6,i7⟩:=h2.look hk
 .rw[i1,i2];exact iM!
 .rw[i1,i4];show GL X.K G (some y) (es[j]?.map (·.val));rw[i3];exact i5
def kput_len:∀(l:j!) (d x:D),(Bg l d x).length<=aC!+1
 |[],_,_=>by simp[Bg]
 |(y,z)::l,d,x=>by
  unfold Bg;split
  .simp
  .have:=kput_len l d x;simp only[IH];omega
def a8n{Q:cM!}(hu:an!)(I:d!)(m:bv_)(sub:E!)(e:b9!)(r:bM_)(hk:bh_)(rv:kw_)(hl:cE!)
  (h:yV_):wpAny e! A yw_ Q E s:=by
 obtain⟨es,J,h2,h3,h4,h5,h6⟩:=eA I m sub e;have av:=NT h2.1;refine d1w hu h3 h6 ho_ hp! λh' tk D' hs=>?_;have lp:=h2.put (x:=x) hk r rv;have qh:Ya (Mb fn! k) ep=Hc h1 d ep:=by
  unfold Hc;obtain⟨i1,i2,i3,i4⟩|⟨j,y,e',i1,i2,i3,i4,i5,i6,i7⟩:=h2.look hk
  .rw[i1,i2];simp[Ya]
  .rw[i1,i4];simp[Ya]
 rw[qh]at D';have lq:=NT lp.1;have:=kput_len h1 d x;exact h _ _ (a1q I J D' hs h4 a!) ⟨_,bQ,lp⟩
def a8o{Q:l_}(hu:d2_)(I:d!)(m:bv_)(sub:E!)(e:b9!)(r:bM_)(hk:bh_)(hx:yW!)
  (h:∀o s',Inv X Y Z H s'->Cn X.K G x o->Q o s'):wpAny e! A (getItem F! u) Q E s:=by
 obtain⟨es,J,h2,h3,h4,h5,h6⟩:=eA I m sub e;have hT:=fp_;unfold getItem;refine JS (HM (wpAny_sequenceKey hT c! (HM (JZ (name:=tw!) hT PySem.slot_dict_getitem (JR PySem.slot_dict_getitem hT PySem.entry_dict_getitem ?_ (PySem.args_dict_getitem _ _))))));show wpAny e! A.in1 kx_ _ _ s;refine HM ky!;rw[hx]at ho;cases o with
 |none=>exact ho.elim
 |some o=>exact HP ⟨o,rfl,HP (h o s' I' ho)⟩
def rQ{Q:df!}(hu:d2_)(I:d!)(m:bv_)(sub:E!)(e:b9!)(r:bM_)(hk:bh_)
  (h:∀s',Inv X Y Z H s'->Q (di!).isSome s'):wpAny e! A (contains F! u) Q E s:=by
 obtain⟨es,J,h2,h3,h4,h5,h6⟩:=eA I m sub e;have hT:=fp_;unfold contains;refine JS (HM (QH hT QJ.lookup ?_));rw[IF (by rw[beq_builtin_none];exact IV)];refine HM (wpAny_callSpecialUnlessNone?_slot (name:=Str.ofString "__contains__") hT QJ (JR QJ hT PySem.entry_dict_contains ?_ (PySem.args_dict_contains _ _)));show wpAny e! A.in1 kx_ _ _ s;refine HM ky!;cases o with
 |none=>
  have hn:kget h1 d=none:=by
   cases q:kget h1 d with
   |none=>rfl
   |some y=>rw[q]at ho;exact ho.elim
  have h:=h s' I';rw[hn]at h;exact HM (wpAny_pendingKey_other h4 (HP yY!))
 |some o=>
  have hn:(di!).isSome=true:=by
   cases q:kget h1 d with
   |none=>rw[q]at ho;exact ho.elim
   |some y=>rfl
  have h:=h s' I';rw[hn]at h;exact HP yY!
def a8m{Q:cM!}(hu:d2_)(I:d!)(m:bv_)(sub:E!)(e:b9!)(r:bM_)(hk:bh_)(rv:kw_)(hl:cE!)
  (h:yV_):wpAny e! A (setItem F! u v) Q E s:=by
 obtain⟨es,J,h2,h3,h4,h5,h6⟩:=eA I m sub e;have hT:=fp_;unfold setItem;refine JS (HM (wpAny_sequenceKey hT c! (HM (JZ (name:=Str.ofString "__setitem__") hT PySem.slot_dict_setitem (JR PySem.slot_dict_setitem hT PySem.entry_dict_setitem ?_ (PySem.args_dict_setitem _ _ _))))));refine HM (OJ hT ?_);show wpAny e! A.in1 (dictSet a u v>>=_) _ _ s;exact HM (a8n (A:=A.in1) hu I m sub e r hk rv hl λa7 s' I' c'=>HP ⟨bX!,rfl,HP (h a7 s' I' c')⟩)
def c4l{Q:l_}(hu:d2_)(I:d!)(m:bv_)(sub:E!)(e:b9!)(r:bM_)(hk:bh_)
  (h:∀o s',Inv X Y Z H s'->Cn X.K G ((di!).getD .non) o->Q o s'):wpAny e! A (call yZ! [bA!,u]) Q E s:=by
 obtain⟨es,J,h2,h3,h4,h5,h6⟩:=eA I m sub e;refine JR PL h3.typeIs PySem.F.entry_dict_get ?_ (PySem.F.args_dict_get_2 _ _);show wpAny e! A.in1 kx_ _ _ s;refine HM ky!;cases q:kget h1 d with
 |none=>
  rw[q]at ho;cases o with
  |none=>
   have h:=h .none s' I';rw[q]at h;exact HM (wpAny_missed_other h4 (HP ⟨bX!,rfl,h ⟨V.non,Aq.non,rfl⟩⟩))
  |some o=>exact ho.elim
 |some y=>
  rw[q]at ho;cases o with
  |none=>exact ho.elim
  |some o=>
   have h:=h o s' I';rw[q]at h;exact HP y0!
def c4k{Q:l_}(hu:d2_)(I:d!)(m:bv_)(sub:E!)(e:b9!)(r:bM_)(hk:bh_)(rv:kw_)
  (h:∀o s',Inv X Y Z H s'->Cn X.K G ((di!).getD x) o->Q o s'):wpAny e! A (call yZ! [bA!,u,v]) Q E s:=by
 obtain⟨es,J,h2,h3,h4,h5,h6⟩:=eA I m sub e;refine JR PL h3.typeIs PySem.F.entry_dict_get ?_ (PySem.F.args_dict_get_3 _ _ _);show wpAny e! A.in1 kx_ _ _ s;refine HM ky!;cases q:kget h1 d with
 |none=>
  rw[q]at ho;cases o with
  |none=>
   have h:=h v s' I';rw[q]at h;exact HM (wpAny_missed_other h4 (HP ⟨v,rfl,h rv⟩))
  |some o=>exact ho.elim
 |some y=>
  rw[q]at ho;cases o with
  |none=>exact ho.elim
  |some o=>
   have h:=h o s' I';rw[q]at h;exact HP y0!
def wN{Q:l_}(hu:d2_)(I:d!)(m:bv_)(sub:E!)(e:b9!)(r:bM_)(hk:bh_)(rv:kw_)(hl:cE!)
  (hs:∀y o s',kget h1 d=some y->Inv X Y Z H s'->Cn X.K G y o->Q o s')
  (hn:kget h1 d=none->∀a7 s',Inv X Y Z kz_ s'->Gw X.prog X.w X.K G kz_ a (.dct o2! bu!)->Q v s'):wpAny e! A (call (.builtin "dict.setdefault") [bA!,u,v]) Q E s:=by
 obtain⟨es,J,h2,h3,h4,h5,h6⟩:=eA I m sub e;have av:=NT h2.1;have hT:=fp_;refine JR SI hT PySem.F.entry_dict_setdefault ?_ (PySem.F.args_dict_setdefault_3 _ _ _);unfold Builtin.«dict.setdefault» y1!;refine HM pf!;dsimp only;rw[IF (by rw[h4];exact IV)];obtain⟨i1,i2,i3,i4⟩|⟨j,y,e',i1,i2,i3,i4,i5,i6,i7⟩:=h2.look hk
 .refine HM (pN (A:=A.in1) hu h3 h6 ho_ hp! (λj e tk q=>by rw[i1]at q;cases q) λh' tk _ D' cm=>HP ⟨_,rfl,hn i2 _ _ y1_ ⟨_,bQ,?_⟩⟩)
  .rw[JA,LQ];omega
  .have:=h2.put (x:=x) hk r rv;rw[i1]at this;exact this
 .exact HM (pN (A:=A.in1) hu h3 h6 ho_ hp! (λj' e tk q q2=>by
   rw[i1]at q;cases q;rw[i3]at q2;cases q2;exact HP ⟨_,rfl,hs y _ _ i4 ey! i5⟩) λh' tk q=>by rw[i1]at q;cases q)
def c9h{Q:l_}(hu:d2_)(I:d!)(m:bv_)(sub:E!)(e:b9!)(r:bM_)(hk:bh_)(hx:yW!)
  (h:∀a7 o s',Inv X Y Z kz_ s'->Gw X.prog X.w X.K G kz_ a (.dct (Gh h1 d) bu!)->Cn X.K G x o->Q o s'):wpAny e! A (call (.builtin "dict.pop") [bA!,u]) Q E s:=by
 obtain⟨es,J,h2,h3,h4,h5,h6⟩:=eA I m sub e;have hT:=fp_;obtain⟨i1,i2,i3,i4⟩|⟨j,y,e',i1,i2,i3,i4,i5,i6,i7⟩:=h2.look hk
 .rw[i2]at hx;cases hx
 .rw[i4]at hx;cases hx;refine JR PySem.F.slot_dict_pop hT PySem.F.entry_dict_pop ?_ (PySem.F.args_dict_pop_2 _ _);unfold Builtin.«dict.pop» y1!;refine HM pf!;dsimp only;have fin:wpAny e! A.in1 yz! (λold s'=>∃e o,old=some e/\e.val=o/\Q o s') E s:=by
   refine c8u (A:=A.in1) hu h3 h6 ho_ hp! i1 i3 λh' tk D' cm=>⟨e',_,rfl,rfl,h _ _ _ y1_ ⟨_,bQ,?_⟩ i5⟩
   .exact JM (List.length_eraseIdx_le _ _) h5
   .rw[i7];exact h2.del
  obtain⟨o,ho,_,hd⟩:=id h3;have hne:es.toArray.isEmpty=false:=by
   cases es with
   |nil=>simp at i3
   |cons _ _=>rfl
  by_cases hp:(keyPart u).isSome=true
  .rw[IB hp];refine HM O_;rw[IF IV];refine HM y2_;subst q1 q2;exact HM y3_
  .rw[IF hp];refine HM (MV ho hd (HM O_));rw[hne,IF IV];refine HM y2_;subst q1 q2;exact HM y3_
end
section
variable{X:Cx}{Y:List (Addr×Obj)}{Z:St}{H:Hp}{s:z6!}
def a2x{ds es:b!}{A:x8!}(I:d!)(qa:jV_)(qb:Fy X.K H b ws)(rd:g2!)(re:g2_)(hu:an!)
  (h:jX_):SeqAt.RcNeAt A s F! dJ! (!Ij ds es):=by
 obtain⟨us,rv,p1,_⟩:=I.tuple qa;obtain⟨us',az,p2,_⟩:=I.tuple qb;have J:=aI rd;have h2:=aI re;have h3:=ep_;have h4:=jZ_;have z:=SeqAt.RcNeAt.tuples (A:=A) (e:=jY_) p1 p2 hu jZ!;have e:wV_=Ij ds es:=by
  show"#."
  .rw[hl,Nat.min_self,<-hl,j0_,hl];simp
  .rw[j1!];have:(f_==ae!)=false:=by simpa using hl
   rw[this,RE]
 rw[e]at z;exact z
def a6r{ds es:b!}{A:x8!}(I:d!)(qa:oq_)(qb:Fh X.K H b ws)(rd:g2!)(re:g2_)(hu:an!)
  (h:jX_):SeqAt.RcNeAt A s F! dJ! (!Ij ds es):=by
 show"!?";have h4:=jZ_;by_cases hl:f_=ae!
 .have z:=SeqAt.RcNeAt.lists (A:=A) (e:=jY_) p1.isList p2.isList nX! hu jZ!;rw[HY,<-h3,<-J,j0_]at z;exact z
 .rw[j1!];exact SeqAt.RcNeAt.lists_lengths p1.isList p2.isList wW! hu
def b5f(I:d!){A:x8!}(n:b4!)(n':e8_)(hu:an!)(r:dV_)(r':g5!)(ru:a3!)(a9:g5_)(hT:∀xs ys,d=.tup xs->d'=.tup ys->SeqAt.RcNeAt A s u u' kA!)(hL:∀xs ys,d=.lst xs->d'=.lst ys->SeqAt.RcNeAt A s u u' kA!):SeqAt.RcNeAt A s u u' kA!:=by
 show"!e"
 all_goals first|exact hT _ _ rfl rfl|exact hL _ _ rfl rfl|(unfold Eh;(try simp only[QG,MC]);with_reducible first|exact .none_none|exact .same _|exact .none_bool _|exact .none_int _ _|exact .none_str _ _|exact .none_tuple ‹_› hu|exact .none_list ‹_› hu|exact .bool_none _|exact .bool_bool _ _|exact .bool_int _ _ _|exact .bool_str _ _ _|exact .bool_tuple _ ‹_› hu|exact .bool_list _ ‹_› hu|exact .int_none _ _|exact .int_bool _ _ _|exact .int_int _ _ _ _|exact .int_str _ _ _ _|exact .int_tuple _ _ ‹_› hu|exact .int_list _ _ ‹_› hu|exact .str_none _ _|exact .str_bool _ _ _|exact .str_int _ _ _ _|exact .str_str _ _ _ _|exact .str_tuple _ _ ‹_› hu|exact .str_list _ _ ‹_› hu|exact .tuple_none ‹_› hu|exact .tuple_bool _ ‹_› hu|exact .tuple_int _ _ ‹_› hu|exact .tuple_str _ _ ‹_› hu|exact .tuple_list ‹_› ‹_› hu|exact .list_none ‹_› hu|exact .list_bool _ ‹_› hu|exact .list_int _ _ ‹_› hu|exact .list_str _ _ ‹_› hu|exact .list_tuple ‹_› ‹_› hu)
def b5g(I:d!)(d d':D){A:x8!}(n:b4!)(n':e8_)(hu:wY_)(r:dV_)(r':g5!)(ru:a3!)(a9:g5_):SeqAt.RcNeAt A s u u' kA!:=
 b5f I n n' a! r r' ru a9 (λxs ys e e'=>by
  subst e e';obtain⟨a,vs,rfl,q,rr⟩:=bN r;obtain⟨b,ws,rfl,q',bz⟩:=bN r';cases ru;cases a9;unfold Az at n n';unfold Gx at hu;unfold Eh;exact a2x I q q' rr bz a! λus us' rv az=>kH I xs ys A.in1 vs ws us us' n n' e9_ rr bz rv az) (λxs ys e e'=>by
  subst e e';obtain⟨a,vs,rfl,q,rr⟩:=bO r;obtain⟨b,ws,rfl,q',bz⟩:=bO r';cases ru;cases a9;unfold Az at n n';unfold Gx at hu;unfold Eh;exact a6r I q q' rr bz a! λus us' rv az=>kH I xs ys A.in1 vs ws us us' n n' e9_ rr bz rv az)
def Zo(K:zY!):R2:=λx y H Q=>∃dx dy,Aq K H dx x/\Aq K H dy y/\Az dx=true/\Az dy=true/\Gx dx<=40/\Q (.bl (!Eh dx dy)) H
def jA(hu:an_):Gv X sc_ (Zo X.K):=by intro Y s Z H x y v u Q I rx ry h;obtain⟨dx,dy,r1,r2,n1,n2,hd,q⟩:=h;exact b5g I dx dy n1 n2 a! r1 r2 rx ry X.prog X.w X.xe _ wZ!
def Er:D->D->Option D:=λx y=>if Az x&&Az y&&decide (Gx x<=40)then some (.bl (!Eh x y))else none
def qK{K:zY!}:Ic K (Zo K) Er:=by
 show"!1";unfold Er at e;show"!8"
 .show"!m";cases e;exact wZ_
 .cases e
open Classical in
def Tw(K:zY!)(H:Hp)(x:D)(u:xT!):Bool:=decide (∃d,Cn K H d u/\Az d=true/\Eh d x=true)
open Classical in
def b9h(I:d!)(r:Cn X.K H d u)(n:b4!):Tw X.K H x u=Eh d x:=by
 unfold Tw;cases h:Eh d x with
 |true=>exact IY ⟨d,r,n,h⟩
 |false=>
  refine IG ?_;rintro⟨d',⟨v',r',a9⟩,n',h'⟩;obtain⟨v,r,ru⟩:=r;have:=ru.inj a9;subst this;rw[zN I d d' v n n' r r']at h;rw[h]at h';cases h'
def pQ(I:d!):∀{ds:b!} {vs:m_} {us:g_},Al X.K H ds vs->Ax vs us->Bv ds=true->us.any (Tw X.K H x)=ds.any λd=>Eh d x
 |[],vs,us,r,rv,_=>by cases cG r;cases rv;rfl
 |d::ds,vs,us,r,rv,n=>by
  obtain⟨v,t,rfl,r1,r2⟩:=bF r;unfold Bv at n;rw[JD]at n;cases rv with
  |cons qe sj=>rw[NC,NC,b9h I ⟨v,r1,qe⟩ n.1,pQ I r2 sj n.2]
def oU(I:d!){A:x8!}(rx:Aq X.K H x y)(ry:Bl y v)(nx:Az x=true):∀{ds:b!} {vs:m_} {us:g_},Al X.K H ds vs->Ax vs us->Bv ds=true->A.units+Dm ds<cLine->∀u∈us,SeqAt.EqAt A s u v (Tw X.K H x u)
 |[],vs,us,r,rv,_,_=>λu hu=>by cases cG r;cases rv;cases hu
 |d::ds,vs,us,r,rv,n,hd=>λu hu=>by
  obtain⟨z,t,rfl,r1,r2⟩:=bF r;unfold Bv at n;rw[JD]at n;unfold Dm at hd;cases rv with
  |cons qe sj=>
   obtain rfl|hu:=HV.mp hu
   .rw[b9h I ⟨z,r1,qe⟩ n.1];exact b9k I d x A z y _ _ n.1 nx a! r1 rx qe ry
   .exact oU I rx ry nx r2 sj n.2 a! u hu
def Zp(K:zY!)(neg:Bool):R2:=λx y H Q=>∃p ys dx ds,y=.ref p/\pi!/\Aq K H dx x/\Al K H ds ys/\Az dx=true/\Bv ds=true/\Dm ds<=40/\Q (.bl (if neg then !(ds.any λd=>Eh d dx)else ds.any λd=>Eh d dx)) H
def c7e(hu:an_):Gv X jb_ (Zp X.K false):=by
 intro Y s Z H x y v u Q I rx ry h;obtain⟨p,ys,dx,ds,rfl,hq,r1,r2,n1,n2,hd,q⟩:=h;cases ry;obtain hq|hq:=hq
 .show"!M";refine SeqAt.in_listAt fq_ pl.isList kB_ eM_;rw[kC_,kC!];exact q
 .show"!u";refine SeqAt.in_tupleAt fq_ pl kB_ eM_;rw[kC_,kC!];exact q
def b2o(hu:an_):Gv X pi_ (Zp X.K true):=by
 intro Y s Z H x y v u Q I rx ry h;obtain⟨p,ys,dx,ds,rfl,hq,r1,r2,n1,n2,hd,q⟩:=h;cases ry;obtain hq|hq:=hq
 .show"!M";refine SeqAt.notIn_listAt fq_ pl.isList kB_ eM_;rw[kC_,kC!];exact q
 .show"!u";refine SeqAt.notIn_tupleAt fq_ pl kB_ eM_;rw[kC_,kC!];exact q
def Zq(P:z7!)(w:yO!)(K:zY!)(neg:Bool):R2:=λx y H Q=>∃(M:Mh) (G:Hp) (a:xz!) (h1:j!) (ep:Nat) (d:D) (k:MK),y=.ref a/\Ba G H/\MR P w K M G H/\M a=some ho!/\Aq K G d x/\Df d=some k/\Q (.bl (if neg then !(di!).isSome else(di!).isSome)) H
def c7f(hu:an_):Gv X jb_ (Zq X.prog X.w X.K false):=by intro Y s Z H x y v u Q I rx ry h;obtain⟨M,G,a,h1,ep,d,k,rfl,sub,m,e,r,hk,q⟩:=h;cases ry;exact HM y7_
def b2p(hu:an_):Gv X pi_ (Zq X.prog X.w X.K true):=by intro Y s Z H x y v u Q I rx ry h;obtain⟨M,G,a,h1,ep,d,k,rfl,sub,m,e,r,hk,q⟩:=h;cases ry;exact HM y7_
def Xs(P:z7!)(w:yO!)(K:zY!)(neg:Bool):R2:=λx y H Q=>Zp K neg x y H Q\/Zq P w K neg x y H Q
def fX(hu:an_):Gv X jb_ (Xs X.prog X.w X.K false):=(c7e hu).or (c7f hu)
def qE(hu:an_):Gv X pi_ (Xs X.prog X.w X.K true):=(b2o hu).or (b2p hu)
def Rp(M:Mh):D->Option aI_
 |.lst xs=>some xs
 |.tup xs=>some xs
 |.fn a=>match M a with|some (.lst xs)=>some xs|_=>none
 |_=>none
def zC{K:zY!}{M:Mh}{G H:Hp}(sub:E!)(m:b7_)(r:cs!)(e:Rp M d=some xs):∃p ys,v=.ref p/\pi!/\Al K G xs ys:=by
 cases d<;>first|(cases e;done)|skip
 .cases e;show"!V";exact⟨p,vs,rfl,.inr j3_,rr⟩
 .cases e;obtain⟨p,vs,rfl,q,rr⟩:=bO r;exact⟨p,vs,rfl,.inl (sub.seq q),rr⟩
 .rename_i a;cases fM r;simp only[Rp]at e;show"!8"
  .rename_i ys hy;cases e;obtain⟨_,vs,J,h2⟩:=m.cell a _ hy;exact⟨a,vs,rfl,.inl (Fh.of J),h2⟩
  .cases e
def Il(neg:Bool)(M:Mh)(x y:D):Option D:=match y with
 |.fn a=>match M a with
  |some (.dct h1 _)=>(Df x).bind λ_=>some (.bl (if neg then !(kget h1 x).isSome else(kget h1 x).isSome))
  |_=>inS M x y
 |_=>inS M x y
where inS (M:Mh) (x y:D):Option D:=(Rp M y).bind λds=>if Az x&&Bv ds&&decide (Dm ds<=40)then some w3_ else none
def eU{K:zY!}{neg:Bool}:Xc P w K (Xs P w K neg) (Il neg):=by
 intro x y dx dy d M G H Q sub m rx ry e k;have seq:Il.inS neg M dx dy=some d->Xs P w K neg x y H Q:=λe=>by
  obtain⟨ds,e1,e2⟩:=HN.mp e;split at e2
  .show"!m";cases e2;obtain⟨p,ys,rfl,q,rr⟩:=zC sub m ry e1;exact .inl ⟨p,ys,dx,ds,rfl,q,rx.mono sub,rr.mono sub,h.1.1,h.1.2,h.2,dT!⟩
  .cases e2
 unfold Il at e;show"!8"
 .rename_i a;show"!8"
  .show"#>";cases e2;cases fM ry;exact .inr ⟨M,G,a,h1,ep,dx,kk,rfl,sub,m,hM,rx,e1,dT!⟩
  .exact seq e
 .exact seq e
def BP(P:z7!)(w:yO!)(K:zY!):R2:=λx y H Q=>∃(M:Mh) (G:Hp) (a:xz!) (h1:j!) (ep:Nat) (d z:D) (k:MK),x=.ref a/\Ba G H/\MR P w K M G H/\M a=some ho!/\Aq K G d y/\Df d=some k/\kget h1 d=some z/\∀v,Aq K G z v->Q v H
def c8j(hu:an_):Vi X (BP X.prog X.w X.K):=by
 intro value f8 Y s Z H x y v u Q I rx ry h hs;obtain⟨M,G,a,h1,ep,d,z,k,rfl,sub,m,e,r,hk,hz,q⟩:=h;cases rx;obtain⟨es,J,h2,h3,h4,h5,h6⟩:=eA I m sub e;unfold subscriptTail;refine HM ?_;rw[getitemInPython_of_ne h3.typeIs.not_modules];refine HM (QH h3.typeIs PySem.F.slot_dict_getitem.lookup ?_);have fin:wpAny e! X.A (subscripted f8 false F! u) (λr c8=>wpAny e! X.A (letTemporaryGo value F! r>>=λ_=>pure r) aD! X.xe c8) X.xe s:=by
  rw[hs];exact wpAny_operating (a8o (A:=X.A) a! I m sub e ⟨_,r,ry⟩ hk hz λo s' I' ⟨v',r',a9⟩=>HM (wpAny_letTemporaryGo (HP ⟨v',H,I',a9,q v' r'⟩)))
 first
  |exact HP jf!
  |exact HM (HP jf!)
  |exact HM fin
def BQ(P:z7!)(w:yO!)(K:zY!):R2:=λx y H Q=>ET K x y H Q\/BP P w K x y H Q
def bK(hu:an_):Vi X (BQ X.prog X.w X.K):=aH.or (c8j hu)
def Ce(M:Mh)(x y:D):Option D:=match x with
 |.fn a=>match M a with
  |some (.dct h1 _)=>(fr!).bind λ_=>kget h1 y
  |some (.lst xs)=>match y with|.int i=>Cs xs i|_=>none
  |_=>none
 |_=>Aj x y
def bI{K:zY!}:Xc P w K (BQ P w K) Ce:=by
 show"![";unfold Ce at e;show"!8"
 .rename_i a;cases fM rx;show"!8"
  .show"#>";exact .inr ⟨M,G,a,h1,ep,dy,d,kk,rfl,sub,m,hM,ry,e1,e2,λv r=>k v G H aJ! r⟩
  .rename_i xs hM;show"!8"
   .rename_i i;cases aZ ry;show"!n";obtain⟨v,e6,r6⟩:=nZ h2 e;exact .inl (.inl ⟨a,vs,i,v,rfl,rfl,Fh.of J,e6,k v G H aJ! r6⟩)
   .cases e
  .cases e
 .exact .inl (aL sub rx ry e k)
def Pa(M:Mh)(x y:D):Option D:=match x with
 |.fn a=>match M a,y with
  |some (.lst xs),.lst ys=>if i_+ah!<=big then some (.lst ef_)else none
  |_,_=>none
 |_=>An x y
def mJ{K:zY!}:Xc P w K (Rt K) Pa:=by
 show"![";unfold Pa at e;show"!8"
 .rename_i a;cases fM rx;show"!8"
  .rename_i xs ys hM;show"!8"
   .show"!E";show"!n";obtain⟨b,ws,rfl,qb,rb⟩:=bO ry;exact .inr (.inr (.inr (.inr ⟨a,b,vs,ws,rfl,rfl,Fh.of J,sub.seq qb,by rw[<-aI h2,<-aI rb];exact cV hl,λp hp=>k _ _ _ jD_ (dM gS! (cU h2 rb))⟩)))
   .cases e
  .cases e
 .exact bE sub rx ry e k
end
def Fc{α:Type}(o:Option α)(R:pl!):Prop:=match o with|some a=>R a|none=>False
def cR{α:Type}{o:Option α}{R:pl!}(h:Fc o R):∃a,o=some a/\R a:=by
 cases o with
 |none=>exact h.elim
 |some a=>exact⟨a,rfl,h⟩
def Ii(C:xz!)(x:Str)(M:Mh)(d:D):Option D:=match d with
 |.fn a=>match M a with
  |some (.obj C' fs)=>if C'=C then fs.lookup x else none
  |_=>none
 |_=>none
def Hw(f:Str)(v:D):List b5!->List b5!
 |[]=>[(f,v)]
 |(g,x)::r=>if g=f then(g,v)::r else(g,x)::Hw f v r
def a4r{K:zY!}{G:Hp}{x:Str}:∀{fs:aK_} {vs:eg!},Nv K G fs vs->fs.lookup x=some d->∃v,vs.lookup x=some v/\Aq K G d v
 |_,_,.nil,e=>by simp at e
 |(a,b)::r,(a',b')::r',.cons ⟨J,h2⟩ t,e=>by
  have J:a=a':=J;subst J;cases hx:(x==a)with
  |true=>
   simp only[JY,hx]at e ⊢;cases e;exact⟨b',rfl,h2⟩
  |false=>
   simp only[JY,hx]at e ⊢;exact a4r t e
def a4q{K:zY!}{G:Hp}{x:Str}:∀{fs:aK_} {vs:eg!},Nv K G fs vs->fs.lookup x=none->vs.lookup x=none
 |_,_,.nil,_=>rfl
 |(a,b)::r,(a',b')::r',.cons ⟨J,h2⟩ t,e=>by
  have J:a=a':=J;subst J;cases hx:(x==a)with
  |true=>simp only[JY,hx]at e;cases e
  |false=>
   simp only[JY,hx]at e ⊢;exact a4q t e
def b1b{K:zY!}{G:Hp}{x:Str}(r:cs!):∀{fs:aK_} {vs:eg!},Nv K G fs vs->Nv K G (Hw x d fs) (Ko x v vs)
 |_,_,.nil=>.cons ⟨rfl,r⟩ .nil
 |(a,b)::fs,(a',b')::vs,.cons ⟨J,h2⟩ t=>by
  have J:a=a':=J;subst J;show Nv K G (if a=x then(a,d)::fs else dj_::Hw x d fs) (if a=x then(a,v)::vs else(a,b')::Ko x v vs);by_cases e:a=x
  .rw[IB e,IB e];exact .cons ⟨rfl,r⟩ t
  .rw[IF e,IF e];exact .cons ⟨rfl,h2⟩ (b1b r t)
section
variable{X:Cx}{own:List Nat}{e o a b:Expr}{es:List Expr}{pos ay ai p:Pos}{f fa fb fo:WE}{fs:WA}{x m:Str}{C:xz!}
def Ay(C:xz!)(x:Str)(f:WE):WE:=λρ M R=>f ρ M λd M1=>Fc (Ii C x M1 d) λv=>R v M1
def bG(c:ex!)(n:Dx X.K C x)(h:bu_)(hb:attributeBase e x X.env el!=eval e X.env:=by rfl):ME X own (.Attribute e x pos) (Ay C x f):=
 eX (c6y h.ok hb) λZ G H Q ρ M R st e k=>⟨G,ρ,M,_,st,e,λd M1 v G1 H1 r1 x1 m1 q1=>by
  obtain⟨z,J,h2⟩:=cR r1;cases d<;>first|(cases J;done)|skip
  rename_i ad;cases fM q1;simp only[Ii]at J;split at J
  .rename_i C' fs hM;split at J
   .rename_i hC;subst hC;obtain⟨_,dx,vs,h3,h4⟩:=m1.cell ad _ hM;obtain⟨u,h5,h6⟩:=a4r h4 J;exact⟨ad,_,dx,vs,u,rfl,h3,c,n,h5,k z M1 u G1 H1 h2 x1 m1 h6⟩
   .cases J
  .cases J⟩
def Tu(P:z7!)(w:yO!)(K:zY!)(r:dA!)(g:ht_):Prop:=∀{vs:m_} {ds:b!} {d:D} {M:Mh} {G H:Hp} {Q:VK},Ba G H->MR P w K M G H->Al K G ds vs->g M ds=some d->jy!->r vs H Q
nonrec def w1(g:ht_)(fs:WA):WE:=λρ M R=>fs ρ M λds M1=>Fc (g M1 ds) λd=>R d M1
def uP{id:String}{r:dA!}{g:ht_}(hc:mB_)(hd:zd_)(hg:J!)(hm:cO!)(hv:mW!)(ha:d5!)(hn:cO_:=by decide)
  (a8:y_:=by decide)(he:ag!:=by rfl)(ax:aF!:=by rfl):ME X own a9_ (w1 g fs):=
 eX we_ λZ G H Q ρ M R st e' k=>⟨G,ρ,M,_,st,e',λds M1 vs G1 H1 r1 x1 m1 q1=>by
  obtain⟨d,J,h2⟩:=cR r1;exact hd x1.sub m1 q1 J λv G2 H2 x2 q2=>k d M1 v G2 H2 h2 ze! (m1.ext x2) q2⟩
def b3h{T:String}{r:dA!}{g:ht_}(hc:Ir X dI! r)(hd:zd_)(hg:J!)(hm:cO!)(hv:mW_)(ha:d5!)(hn:cO_:=by decide)
  (a8:y_:=by decide)(he:ag!:=by rfl)(ax:aF!:=by rfl):ME X own a9_ (w1 g fs):=
 eX (b2n hc hg hm hv ha.ok hn a8 he ax) λZ G H Q ρ M R st e' k=>⟨G,ρ,M,_,st,e',λds M1 vs G1 H1 r1 x1 m1 q1=>by
  obtain⟨d,J,h2⟩:=cR r1;exact hd x1.sub m1 q1 J λv G2 H2 x2 q2=>k d M1 v G2 H2 h2 ze! (m1.ext x2) q2⟩
def Vs(M:Mh):List D->Option D
 |[.str x]=>Bi [.str x]
 |[d]=>(Rp M d).map λxs=>.int i_
 |_=>none
def c0f{K:zY!}:Tu P w K wt! Vs:=by
 show"!{";unfold Vs at e;show"!8"
 .exact eF sub r e k
 .obtain⟨xs,e1,rfl⟩:=IA.mp e;show"!i";refine⟨e4_,i_,rfl,?_,dR_⟩;rw[aI rr];exact q.elim (λz=>.inl zf!) λz=>.inr zf!
 .cases e
def Vd(M:Mh):List D->Option D
 |[d]=>(Rp M d).bind λxs=>if i_<=big then some Q_ else none
 |_=>none
def c4n{K:zY!}:Tu P w K (λxs H Q=>∃p ys,xs=jc!/\pi!/\∀l,H l=none->Q (.ref l) nc_) Vd:=by
 show"!{";unfold Vd at e;show"!8"
 .obtain⟨xs,e1,e2⟩:=HN.mp e;split at e2
  .cases e2;show"!i";exact⟨p,ys,rfl,q,λl hl=>k _ _ _ (Cc.laid sub hl) (dM (sub.free hl) rr)⟩
  .cases e2
 .cases e
def Qy(fs:WA):WE:=λρ M R=>fs ρ M λds M1=>f_<=1000/\∀p,M1 p=none->R z! (mup M1 p cq!)
def a0g(h:hm!):ME X own mO_ (Qy fs):=
 eX nS_ λZ G H Q ρ M R st e k=>⟨G,ρ,M,_,st,e,λds M1 vs G1 H1 r1 x1 m1 q1=>⟨by rw[<-aI q1];exact eY r1.1,λp hp=>
  k _ _ _ _ _ (r1.2 p (m1.nocell hp)) (x1.trans (.laid x1.sub hp) m1) (m1.laid hp x1.sub ⟨vs,bQ,q1⟩) Aq.fn⟩⟩
def Nq(M:Mh)(d:D):Option (Addr×List D):=match d with
 |.fn p=>match M p with|some (.lst xs)=>some (p,xs)|_=>none
 |_=>none
def vQ{K:zY!}{M:Mh}{G H:Hp}{q:Addr×List D}(m:b7_)(r:cs!)(e:Nq M d=some q):d=.fn q.1/\v=.ref q.1/\M q.1=some (.lst q.2)/\∃vs,H q.1=some cr!/\Al K G q.2 vs:=by
 cases d<;>first|(cases e;done)|skip
 rename_i p;cases fM r;simp only[Nq]at e;show"!8"
 .rename_i xs hM;cases e;exact⟨rfl,rfl,hM,(m.cell p _ hM).2⟩
 .cases e
def Ea(M:Mh)(d:D):Option (Addr×List ap!×Nat):=match d with
 |.fn p=>match M p with|some (.dct h1 ep)=>some kF!|_=>none
 |_=>none
def cQ{K:zY!}{M:Mh}{G:Hp}{q:zg!}(r:cs!)(e:Ea M d=some q):d=.fn q.1/\v=.ref q.1/\M q.1=some pm_:=by
 cases d<;>first|(cases e;done)|skip
 rename_i p;cases fM r;simp only[Ea]at e;show"!8"
 .rename_i xs ep hM;cases e;exact⟨rfl,rfl,hM⟩
 .cases e
def Ut(fo fa:WE):WE:=λρ M R=>fo ρ M λd M1=>Fc (Nq M1 d) λ_=>fa ρ M1 λv M2=>Fc (Nq M2 d) λq=>pn!<big/\R .non zg_
def b0o(ho:dk_)(ha:aw!)(hst:n8!:=by rfl)(ik:((xk!).all c3_&&(c4!).all c4_
   &&decide xk_)=true:=by rfl) (io:eO_:=by rfl)
  (ij:attributeBase o "append" X.env dw_=eval o X.env:=by rfl) (ip:jT!:=by rfl):ME X own (.Call (.Attribute o "append" ay) [a] [] ai) (Ut fo fa):=
 eX (a3e OU PySem.F.slot_list_append PySem.F.type_list_append xP ho.ok (dA ha.ok fP hst) ij ik io hst ip) λZ G H Q ρ M R st e k=>
  ⟨G,ρ,M,_,st,e,λd M1 v G1 H1 r1 x1 m1 q1=>by
   obtain⟨c1,e1,r1⟩:=cR r1;obtain⟨rfl,rfl,_,W8,hH,_⟩:=vQ m1 q1 e1;refine⟨.inl ⟨rfl,W8,Fh.of hH⟩,G1,ρ,M1,_,kt_,r1,λz M2 u G2 H2 r2 x2 m2 q2=>?_⟩;obtain⟨⟨p2,xs2⟩,e2,r2⟩:=cR r2;obtain⟨z1,z2,z3,vs,J,h2⟩:=vQ m2 bv! e2;cases z2;refine⟨_,vs,u,rfl,rfl,J,by rw[<-aI h2];exact IW r2.1 (cV v_),?_⟩;exact k _ _ _ _ _ r2.2 ((b8_).trans (.write m2 x2.sub z3) m2) (m2.write z3 ⟨_,bQ,cU h2 (Al.cons q2 Al.nil)⟩) Aq.non⟩
def kL{Y:k_}{Z:St}{G H:Hp}{s:z6!}{M:Mh}{q:zg!}(I:d!)(m:bv_)(sub:E!)(e:M q.1=some pm_):
  s.TypeIs (.ref q.1) "dict"/\∀b,Value.ref q.1=.ref b->∃ob,s.heap.get? b=some ob/\ob.dict=none:=by
 obtain⟨es,_,_,h3,_⟩:=eA I m sub e;refine⟨fp_,λb z=>?_⟩;cases z;obtain⟨o,h,hc,_⟩:=h3;exact⟨o,h,hc.2.1⟩
def ME.run{Y:k_}{Z:St}{G H:Hp}{ρ:Ad}{M:Mh}{R:r_}{Q:l_}(h:bu_)(I:d!)(st:yN!)(hf:hl_)
  (k:∀d M' v G' H' u s',R d M'->XM M G H M' G' H'->MR X.prog X.w X.K M' G' H'->Aq X.K G' d v->Inv X Y Z H' s'->Bl v u->Q u s'):wpAny e! X.A el! Q X.xe s:=
 cX (h.ok Y s Z H (λv H'=>∃d M' G',R d M'/\XM M G H M' G' H'/\MR X.prog X.w X.K M' G' H'/\Aq X.K G' d v) I ⟨G,ρ,M,R,st,hf,λd M' v G' H' r x m q=>⟨d,M',G',r,x,m,q⟩⟩) λu s' ⟨v,H',I',rv,d,M',G',r,x,m,q⟩=>k d M' v G' H' u s' r x m q I' rv
def Ob(fo fa:WE):WE:=λρ M R=>fo ρ M λd M1=>Fc hu_ λ_=>fa ρ M1 λy M2=>Fc (Ea M2 d) λq=>Fc fr! λ_=>R ((po_).getD .non) M2
def b7t(hu:an_)(ho:dk_)(ha:aw!)(m:M1 X o "get" ay a ai):ME X own (.Call zh! [a] [] ai) (Ob fo fa):=⟨by
 intro Y s Z H Q I ⟨G,ρ,M,R,st,e,k⟩;refine QX m.base m.few m.line OV PL PySem.F.type_dict_get kG_;obtain⟨c1,e1,r1⟩:=cR r1;obtain⟨rfl,rfl,hM⟩:=cQ q1 e1;cases rx;obtain⟨t1,t2⟩:=kL I1 m1 x1.sub hM;refine kH!;rw[m.trees];refine OF rfl zh_;obtain⟨⟨p2,xm,lu⟩,e2,r2⟩:=cR r2;obtain⟨kk,e3,r2⟩:=cR r2;obtain⟨z1,z2,fm⟩:=cQ bv! e2;cases z1;exact c4l (A:=X.A) a! I2 m2 x2.sub fm zi! e3 λov s' I' ⟨v',r',a9⟩=>⟨v',H2,I',a9,k _ M2 v' G2 H2 r2 b8_ m2 r'⟩⟩
def Hs(fo fa fb:WE):WE:=λρ M R=>fo ρ M λd M1=>Fc hu_ λ_=>fa ρ M1 λy M2=>fb ρ M2 λz M3=>Fc (Ea M3 d) λq=>Fc fr! λ_=>R ((po_).getD z) M3
def oW(hu:an_)(ho:dk_)(ha:aw!)(hb:bN!)(m:M2 X o "get" ay a b ai):ME X own (.Call zh! al! [] ai) (Hs fo fa fb):=⟨by
 intro Y s Z H Q I ⟨G,ρ,M,R,st,e,k⟩;refine QX m.base m.few m.line OV PL PySem.F.type_dict_get kG_;obtain⟨c1,e1,r1⟩:=cR r1;obtain⟨rfl,rfl,hM⟩:=cQ q1 e1;cases rx;obtain⟨t1,t2⟩:=kL I1 m1 x1.sub hM;refine kH!;rw[m.trees];refine OF rfl (NP (LL (ha.run I1 fr_ r1 λy M2 yv G2 H2 iv s2 r2 x2 m2 q2 I2 ry=>
  LL zj!)))
 obtain⟨⟨p2,xm,lu⟩,e2,r3⟩:=cR r3;obtain⟨kk,e3,r3⟩:=cR r3;obtain⟨z1,z2,fm⟩:=cQ zj_ e2;cases z1;exact c4k (A:=X.A) a! I3 m3 x3.sub fm zk! e3 zk_ λov s' I' ⟨v',r',a9⟩=>⟨v',H3,I',a9,k _ M3 v' G3 H3 r3 pp! m3 r'⟩⟩
def Jq(fo fa fb:WE):WE:=λρ M R=>fo ρ M λd M1=>Fc hu_ λ_=>fa ρ M1 λy M2=>fb ρ M2 λz M3=>Fc (Ea M3 d) λq=>Fc fr! λ_=>q.2.1.length<big/\
 match kget q.2.1 y with
 |some v=>R v M3
 |none=>R z (mup M3 q.1 (.dct (Bg q.2.1 y z) (q.2.2+1)))
def xR(hu:an_)(ho:dk_)(ha:aw!)(hb:bN!)(m:M2 X o "setdefault" ay a b ai):ME X own (.Call (.Attribute o "setdefault" ay) al! [] ai) (Jq fo fa fb):=⟨by
 intro Y s Z H Q I ⟨G,ρ,M,R,st,e,k⟩;refine QX m.base m.few m.line OV SI PySem.F.type_dict_setdefault kG_;obtain⟨c1,e1,r1⟩:=cR r1;obtain⟨rfl,rfl,hM⟩:=cQ q1 e1;cases rx;obtain⟨t1,t2⟩:=kL I1 m1 x1.sub hM;refine kH!;rw[m.trees];refine OF rfl (NP (LL (ha.run I1 fr_ r1 λy M2 yv G2 H2 iv s2 r2 x2 m2 q2 I2 ry=>
  LL zj!)))
 obtain⟨⟨p2,xm,lu⟩,e2,r3⟩:=cR r3;obtain⟨kk,e3,hl,r3⟩:=cR r3;obtain⟨z1,z2,fm⟩:=cQ zj_ e2;cases z1;have k8:=(b8_).trans x3 m2;refine wN (A:=X.A) a! I3 m3 x3.sub fm zk! e3 zk_ hl (λw ov s' hw I' ⟨v',r',a9⟩=>?_) λhn a7 s' I' c'=>?_
 .dsimp only at r3;rw[hw]at r3;exact⟨v',H3,I',a9,k _ M3 v' G3 H3 r3 k8 m3 r'⟩
 .dsimp only at r3;rw[hn]at r3;exact⟨zv,_,I',rz,k _ _ zv G3 _ r3 (k8.trans (.write m3 x3.sub fm) m3) (m3.write fm c') q3⟩⟩
def Xl(fo fa:WE):WE:=λρ M R=>fo ρ M λd M1=>Fc hu_ λ_=>fa ρ M1 λy M2=>Fc (Ea M2 d) λq=>Fc fr! λ_=>Fc po_ λv=>R v (mup M2 q.1 (.dct (Gh q.2.1 y) (q.2.2+1)))
def b7q(hu:an_)(ho:dk_)(ha:aw!)(m:M1 X o "pop" ay a ai):ME X own (.Call (.Attribute o "pop" ay) [a] [] ai) (Xl fo fa):=⟨by
 intro Y s Z H Q I ⟨G,ρ,M,R,st,e,k⟩;refine QX m.base m.few m.line OV PySem.F.slot_dict_pop PySem.F.type_dict_pop kG_;obtain⟨c1,e1,r1⟩:=cR r1;obtain⟨rfl,rfl,hM⟩:=cQ q1 e1;cases rx;obtain⟨t1,t2⟩:=kL I1 m1 x1.sub hM;refine kH!;rw[m.trees];refine OF rfl zh_;obtain⟨⟨p2,xm,lu⟩,e2,r2⟩:=cR r2;obtain⟨kk,e3,r2⟩:=cR r2;obtain⟨w,e4,r2⟩:=cR r2;obtain⟨z1,z2,fm⟩:=cQ bv! e2;cases z1;exact c9h (A:=X.A) a! I2 m2 x2.sub fm zi! e3 e4 λa7 ov s' I' c' ⟨v',r',a9⟩=>⟨v',_,I',a9,k _ _ v' G2 _ r2 ((b8_).trans (.write m2 x2.sub fm) m2) (m2.write fm c') r'⟩⟩
def Gm:WE:=λρ M R=>∀p,M p=none->R z! d6!
def eZ:ME X own (.Dict [] [] pos) Gm:=⟨by
 intro Y s Z H Q I ⟨G,ρ,M,R,st,e,k⟩;have hp:H g!=none:=I.fresh;have D0:Oa kH_ s.heap.objs.size [] 0:=pq!;refine wpAny_Dict_empty ⟨dK_,upd H s.heap.objs.size zl_,pq_,rfl,?_⟩
 .show"!Q"
 .exact k _ _ _ G _ (e _ (st.mr.nocell hp)) (.laid st.or.sub hp) (st.mr.laid hp st.or.sub pr!) Aq.fn⟩
end
abbrev WP:=Ad->Mh->(List ap!->Mh->Prop)->Prop
def Zc(K:zY!)(G:Hp):List ap!->List pr_->Prop:=Paired λp q=>Cn K G p.1 q.1/\Cn K G p.2 q.2
structure MP(X:Cx)(own:k!)(pos:Pos)(keys:List (Option Expr))(jp:bk_)(f:WP):Prop where
 ok:∀(Y:k_) (s:z6!) (Z:St) (G H:Hp) (ρ:Ad) (M:Mh) (R:zm!) (Q:List pr_->Shared->Prop),Inv X Y Z H s->Si X.prog X.w X.K own G H Z ρ M->f ρ M R->
  (∀h1 M' G' H' us s',R h1 M'->XM M G H M' G' H'->MR X.prog X.w X.K M' G' H'->Zc X.K G' h1 us->Inv X Y Z H' s'->Q us s')->wpAny e! X.A (evalPairs (pairTrees keys jp X.env pos)) Q X.xe s
section
variable{X:Cx}{own:List Nat}{e o a b:Expr}{es:List Expr}{pos ay ai p:Pos}{f fa fb fo:WE}{fs:WA}{fp:WP}{keys:List (Option Expr)}{jp:List Expr}
def My:WP:=λ_ M R=>R [] M
def Eb(fa fb:WE)(fp:WP):WP:=λρ M R=>fa ρ M λx M1=>fb ρ M1 λy M2=>fp ρ M2 λh1 M3=>R ((x,y)::h1) M3
def uJ:MP X own pos [] [] My:=⟨λY s Z G H ρ M R Q I st e k=>pairTrees_nil_walk (k [] M G H [] s e kt! st.mr .nil I)⟩
def hV(ha:aw!)(hb:bN!)(hp:zm_):MP X own pos (some a::keys) (b::jp) (Eb fa fb fp):=⟨λY s Z G H ρ M R Q I st e k=>
 pairTrees_cons_walk (ha.run I st e λx M1 v G1 H1 u s1 r1 x1 m1 q1 I1 ru=>hb.run I1 fr_ r1 λy M2 v2 G2 H2 u2 s2 r2 x2 m2 q2 I2 W9=>
  hp.ok Y s2 Z G2 H2 ρ M2 _ _ I2 zi_ r2 λh1 M3 G3 H3 us s3 r3 x3 m3 q3 I3=>
   k _ M3 G3 H3 _ s3 r3 pp! m3 (.cons ⟨⟨v,(bv!).mono x3.g,ru⟩,⟨v2,q2.mono x3.g,W9⟩⟩ q3) I3)⟩
def jO:∀{l:j!} {d x:D},d∉l.map c_->Bg l d x=l++kI!
 |[],_,_,_=>rfl
 |(y,z)::l,d,x,h=>by
  rw[IE,HV,OZ]at h;unfold Bg;rw[kI_,jO h.2];rfl
def pC:∀{l:j!} {d:D},d∉l.map c_->kget l d=none
 |[],_,_=>rfl
 |(y,z)::l,d,h=>by
  rw[IE,HV,OZ]at h;unfold kget;rw[kI_,pC h.2]
def wX{Y:k_}{Z:St}{G:Hp}{A:x8!}{E:l_}(hu:an!):∀{h1:j!} {us:List pr_} {acc:j!} {H:Hp} {s:z6!} {M:Mh} {n:Nat} {Q:zo!},Zc X.K G h1 us->Inv X Y Z H s->MR X.prog X.w X.K M G H->Ba G H->
  M c=some (.dct acc n)->cF!+ax_<=1000->(∀p∈h1,(Df p.1).isSome=true)->((acc++h1).map c_).Nodup->
  (∀H' s',Inv X Y Z H' s'->XM M G H zo_ G H'->MR X.prog X.w X.K zo_ G H'->Q PUnit.unit s')->
  wpAny e! A (forIn us PUnit.unit λ(x:Value×Value) (_:PUnit)=>(do dictSet c x.1 x.2;pure (ForInStep.yield PUnit.unit):Sem zp_)) Q E s
 |_,_,acc,H,s,M,n,Q,.nil,I,m,sub,hM,hl,hk,nd,k=>by
  rw[PH];have hc:mup M c (.dct (acc++[]) (n+0))=M:=by
   show"#,";split
   .rename_i e;rw[e,JH,hM];rfl
   .rfl
  have k:=k H s I;rw[MN,hc]at k;exact HP (k (.refl sub) m)
 |(d,x)::h1,(u,v)::us,acc,H,s,M,n,Q,.cons r t,I,m,sub,hM,hl,hk,nd,k=>by
  rw[MO];obtain⟨kk,hd⟩:=QL.mp (hk _ HX);have pv:d∉acc.map c_:=λz=>by
   rw[IZ,JL]at nd;exact nd.2.2 d z d b_ rfl
  simp only[IH]at hl;refine HM (HM (a8n hu I m sub hM r.1 hd r.2 (IW a! (show 1001<=big by decide)) λa7 s' I' c'=>HP ?_));have qh:Hc acc d n=n+1:=by unfold Hc;rw[pC pv];simp
  rw[qh,jO pv]at c';rw[qh]at I';have m':=m.write hM c';have XA:Ba G (upd H c (dE c a7 cy_)):=(XM.write (c:=.dct (acc++kI!) cy_) m sub hM).sub;refine wX hu t I' m' XA mup_same zs_ (λp hp=>hk p jl!) (by rw[KL];exact nd) λH2 s2 I2 x2 m2=>?_;have hc:mup (mup M c (.dct (acc++kI!) cy_)) c (.dct (acc++kI!++h1) (n+1+ax_))=mup M c (.dct (acc++(d,x)::h1) (n+((d,x)::h1).length)):=by
   show"#,";split
   .rw[KL,IH];simp only[List.singleton_append];rw[show n+1+h1.length=n+(h1.length+1)by omega]
   .rfl
  rw[hc]at x2 m2;exact k H2 s2 I2 ((XM.write m sub hM).trans x2 m') m2
def On(fp:WP):WE:=λρ M R=>∀p,M p=none->fp ρ d6! λh1 M1=>M1 p=some ca!/\ax_<=1000/\(∀q∈h1,(Df q.1).isSome=true)/\(fm!).Nodup/\R z! (mup M1 p (.dct h1 ax_))
def oV(hu:an_)(hp:zm_)(gn:keys.all (·.isSome)=true:=by rfl)(hl:keys.length=jp.length:=by rfl)(h0:keys≠[]:=by simp)(h15:keys.length<=15:=by decide):ME X own (.Dict keys jp pos) (On fp):=⟨by
 intro Y s Z H Q I ⟨G,ρ,M,R,st,e,k⟩;have hn:=pairTrees_length keys jp X.env pos gn hl;have gf:pairTrees keys jp X.env pos≠[]:=λz=>by rw[z]at hn;exact h0 (QQ.mp hn.symm)
 rw[arm_eval_Dict,zip_pairTrees keys jp X.env pos gn hl,dictDisplay_pairs _ gf a!];unfold subDict;have hf:H g!=none:=I.fresh;have D0:Oa kH_ s.heap.objs.size [] 0:=pq!;have I1:Inv X Y Z dl! {s with heap:=s.heap.push {cls:=.type "dict",data:=.dict #[]}}:=by
  refine pq_;show"!Q"
 have x0:XM M G H hv_ G dl!:=.laid st.or.sub hf;have m0:MR X.prog X.w X.K hv_ G dl!:=st.mr.laid hf st.or.sub pr!;refine HM (RB (HM (HM (wpAny_alloc (HM (JS ?_))))));rw[ap_];refine HM (hp.ok Y _ Z G _ ρ _ _ _ I1 (st.grow x0 m0) (e _ (st.mr.nocell hf)) λh1 M1 G1 H1 us s1 r1 x1 m1 q1 I2=>?_);obtain⟨hM1,av,hk,nd,r1⟩:=r1;refine JS (HM (wX (A:=X.A) (acc:=[]) a! q1 I2 m1 x1.sub hM1 (by simpa using av) hk nd λH2 s2 I3 x2 m2=>HP (HP (HP ⟨dK_,H2,I3,rfl,?_⟩))));have TV:=(x0.trans x1 m0).trans x2 m1;simp only[KP,SF]at TV m2;exact k _ _ _ G1 H2 r1 TV m2 Aq.fn⟩
end
abbrev WS:=Ad->Mh->(Fl->Mh->Prop)->Prop
structure Iq(P:z7!)(w:yO!)(K:zY!)(own:k!)(M0:Mh)(G0 F0:Hp)(M:Mh)(G H:Hp)(Z:St)(ρ:Ad):Prop where
 st:Si P w K own G H Z ρ M
 x:XM M0 G0 F0 M G H
 fr:∀i∈own,∀p,Z[i]?=some b2_->F0 p=none
inductive AM(P:z7!)(w:yO!)(K:zY!)(M0:Mh)(G0 F0:Hp)(own ae:k!)(f:WS)(E:Sj)(Z:St)(H:Hp):Prop
 |mk (G:Hp) (ρ:Ad) (M:Mh) (R:p_) (st:bO_) (e:hl_) (a:∀ρ' M' G' ac H',R bP! M'->Iq P w K ae M0 G0 F0 M' G' H' ac ρ'->E.nx ac H') (b:∀d M' v G' H',R aP_ M'->XM M0 G0 F0 M' G' H'->MR P w K M' G' H'->Aq K G' d v->E.rt v H'):AM P w K M0 G0 F0 own ae f E Z H
structure MS(X:Cx)(own ae:k!)(st:Stmt)(f:WS):Prop where
 ok:∀M0 G0 F0,PS X st zt_
structure Tz(X:Cx)(own ae:k!)(st:by!)(f:WS):Prop where
 ok:∀M0 G0 F0,Ox X st zt_
section
variable{P:z7!}{w:yO!}{K:zY!}{own ae:List Nat}{M0 M M':Mh}{G0 F0 G H G' H':Hp}{Z ac:St}{ρ ρ':Ad}
def Iq.grow(s:bO_)(x:kp_)(m:wy_):Iq P w K own M0 G0 F0 M' G' H' Z ρ:=⟨s.st.grow x m,s.x.trans x s.st.mr,s.fr⟩
def Iq.set{i:Nat}(s:bO_)(hi:aP!)(r:cs!):Iq P w K own M0 G0 F0 M G H ej_ bG_:=by
 have ne:∀j∈own,i≠j:=λj hj z=>hi (z▸hj);refine⟨⟨s.st.or.set hi r,s.st.mr,zu!⟩,s.x,zu!⟩
 .rw[JG (ne j hj)]at e;exact s.st.dj j hj p e
 .rw[JG (ne j hj)]at e;exact s.fr j hj p e
def Gf(own:k!)(Z:St)(H:Hp):Hp:=λb=>if b∈Jf own Z then none else H b
def Iq.sr(s:bO_):SR K own G kJ! G H Z ρ:=by
 refine⟨s.st.or,⟨eX!,jv!,s.st.or.sub,db_⟩,wQ!⟩
 .unfold Gf at e;show"!8"
  .cases e
  .exact e
 .unfold Gf;rw[IB (a2r hi e)]
def Iq.root(s:bO_){b:xz!}(h:b∈Jf own Z):M b=none/\F0 b=none:=by obtain⟨i,hi,q⟩:=mM h;exact⟨s.st.dj i hi b q,s.fr i hi b q⟩
def Iq.noF(s:bO_){b:xz!}(h:Gf own Z H b=none):F0 b=none:=by
 unfold Gf at h;split at h
 .rename_i hb;exact(kJ_).2
 .cases hM:M0 b with
  |none=>exact s.x.free hM h
  |some c=>exact absurd h (s.st.mr.has (s.x.cells b yE_))
def Iq.cellF(s:bO_){b:xz!}{c:Cw}(h:M b=some c):Gf own Z H b=H b/\H b≠none:=by refine⟨?_,s.st.mr.has (by rw[h];simp)⟩;unfold Gf;rw[IF (λhb=>by rw[(kJ_).1]at h;cases h)]
def Iq.mr'(s:bO_)(x:zv!):MR P w K M G' H':=⟨λa c e=>by
 obtain⟨J,h2⟩:=s.st.mr.cell a c e;obtain⟨e1,e2⟩:=s.cellF e;refine yF_
 .cases q:G' a with
  |none=>rfl
  |some o=>
   rcases x.new a cn_ with z|z
   .exact absurd J z
   .rw[e1]at z;exact absurd z e2
 .cases q:H a with
  |none=>exact absurd q e2
  |some o=>exact x.h a o (e1.trans q)⟩
def Iq.x'(s:bO_)(x:zv!):XM M0 G0 F0 M G' H':=by
 refine⟨s.x.g.trans x.g,x.sub,bd!,zv_,s.x.dom,s.x.cells⟩
 .obtain z|z:=x.new b h
  .exact s.x.new b z
  .exact pt_
 .have J:=s.x.keep b o e hb;refine x.h b o ?_;unfold Gf;rw[zw!];exact J
def Iq.after(s:bO_)(r:SR K ae G kJ! G' H' ac ρ'):Iq P w K ae M0 G0 F0 M G' H' ac ρ':=
 ⟨⟨r.or,s.mr' r.ext,λi hi p e=>by
  cases q:M p with
  |none=>rfl
  |some c=>
   obtain⟨e1,e2⟩:=s.cellF q;have:=r.fr i hi p e;rw[e1]at this;exact absurd this e2⟩,s.x' r.ext,λi hi p e=>s.noF (r.fr i hi p e)⟩
end
section
variable{X:Cx}{own bc f9:List Nat}{st:Stmt}{rest body:List Stmt}{e a b c tg o:Expr}{es:List Expr}{pos p2:Pos}{f fa fb fc fo:WE}{fs:WA}{ft fu:WT}{q1 q2 q3:WS}{q:Ad->Option Fl}
def oS{t:TS}(h:ij!)(hw:∀M0 G0 F0 E Z G H ρ M R,Iq X.prog X.w X.K own M0 G0 F0 M G H Z ρ->q1 ρ M R->
  (∀ρ' M' G' ac H',R bP! M'->Iq X.prog X.w X.K bc M0 G0 F0 M' G' H' ac ρ'->E.nx ac H')->(∀d M' v G' H',R aP_ M'->XM M0 G0 F0 M' G' H'->MR X.prog X.w X.K M' G' H'->Aq X.K G' d v->E.rt v H')->t E Z H):MS X own bc st q1:=
 ⟨λM0 G0 F0 Y s Z H E I ⟨G,ρ,M,R,sr,e,k1,k2⟩=>h Y s Z H E I (hw M0 G0 F0 E Z G H ρ M R sr e k1 k2)⟩
def Zg(q:aJ_):WS:=λρ M R=>Fc (q ρ) λr=>R r M
def c7r(h:DS X own bc st q):MS X own bc st (Zg q):=⟨λM0 G0 F0 Y s Z H E I ⟨G,ρ,M,R,sr,e,k1,k2⟩=>by
 obtain⟨r,e1,e2⟩:=cR e;refine h.ok G kJ! Y s Z H E I ⟨G,ρ,r,sr.sr,e1,?_⟩;cases r with
 |nx ρ'=>exact λG' ac H' cr=>k1 ρ' M G' ac H' e2 (sr.after cr)
 |rt d=>exact λv G' H' x r=>k2 d M v G' H' e2 (sr.x' x) (sr.mr' x) r⟩
def Bp:WS:=λρ M R=>R ad_ M
def Ah(q1 q2:WS):WS:=λρ M R=>q1 ρ M λr M1=>match r with|.nx am=>q2 am M1 R|.rt d=>R aP_ M1
def bU:Tz X own own [] Bp:=⟨λM0 G0 F0 Y s Z H E I ⟨G,ρ,M,R,sr,e,k1,k2⟩=>a9u Y s Z H E I (k1 ρ M G Z H e sr)⟩
def aF(J:pu!)(h2:Tz X bc f9 rest q2):Tz X own f9 ij_ (Ah q1 q2):=⟨λM0 G0 F0 Y s Z H E I ⟨G,ρ,M,R,sr,e,k1,k2⟩=>
 tX pu_ zy_ Y s Z H E I zz!⟩
def aG(J:pu!):Tz X own bc [st] q1:=⟨λM0 G0 F0=>gY pu_⟩
def Iq.free{P:z7!}{w:yO!}{K:zY!}{M0 M:Mh}{G0 F0 G H:Hp}{Z:St}{ρ:Ad}(s:bO_):Iq P w K [] M0 G0 F0 M eX_ H Z ρ:=by
 have o:=s.st.or.full;have sG:Ba G eX_:=λb u e=>by
  unfold Kn;split
  .exact s.st.or.sub b u e
  .exact e
 refine⟨⟨o,⟨λa c e=>?_⟩,au!⟩,⟨s.x.g.trans sG,o.sub,bd!,s.x.keep,s.x.dom,s.x.cells⟩,au!⟩
 .obtain⟨J,h2⟩:=s.st.mr.cell a c e;refine⟨?_,h2.mono sG rfl⟩;unfold Kn;rw[IF (λhb=>by rw[(kJ_).1]at e;cases e)];exact J
 .unfold Kn at h;split at h
  .rename_i hb;exact .inr (kJ_).2
  .exact s.x.new b h
def a3r(h:Tz X [] f9 rest q1):Tz X own f9 rest q1:=⟨λM0 G0 F0 Y s Z H E I ⟨G,ρ,M,R,sr,e,k1,k2⟩=>h.ok M0 G0 F0 Y s Z H E I ⟨_,ρ,M,R,sr.free,e,k1,k2⟩⟩
def Bj(f:WE):WS:=λρ M R=>f ρ M λd M1=>R aP_ M1
def bR(h:bu_):MS X own bc ik_ (Bj f):=oS (a6v h.ok) λM0 G0 F0 E Z G H ρ M R sr e k1 k2=>
 ⟨G,ρ,M,_,sr.st,e,zA_⟩
def Om:WS:=λ_ M R=>R (.rt .non) M
def a0d:MS X own bc rk_ Om:=oS c1u λM0 G0 F0 E Z G H ρ M R sr e k1 k2=>k2 _ M _ G H e sr.x sr.st.mr Aq.non
def Am(i:Nat)(f:WE):WS:=λρ M R=>f ρ M λd M1=>R (.nx bG_) M1
def aW{i:Nat}(hN:aT_)(hi:aa_)(hx:a2_)(h:bu_)(bt:aP!:=by decide)(hs:oc_:=by rfl)
  (hf:X.fn x=true\/X.env.scope.names.lookup x=some .local:=by first|exact .inl rfl|exact .inr rfl|assumption):MS X own own wD_ (Am i f):=
 oS wE_ λM0 G0 F0 E Z G H ρ M R sr e k1 k2=>⟨G,ρ,M,_,sr.st,e,zB_⟩
def As(ft:WT)(q1 q2:WS):WS:=λρ M R=>ft ρ M λb M1=>if b then q1 ρ M1 R else q2 ρ M1 R
def cM{b1 b2:by!}(hc:ku_)(J:Tz X own bc b1 q1)(h2:Tz X own bc b2 q2):MS X own bc od! (As ft q1 q2):=⟨λM0 G0 F0 Y s Z H E I ⟨G,ρ,M,R,sr,e,k1,k2⟩=>by
 refine b5v hc.ok pu_ zy_ Y s Z H E I zC!;cases b with
 |true=>exact kD kK_
 |false=>exact kW kK_⟩
def Bq(f:WE):WS:=λρ M R=>f ρ M λ_ M1=>R ad_ M1
def cK(h:bu_)(hs:lW!:=by rfl):MS X own own lW_ (Bq f):=
 oS (oE h.ok hs) λM0 G0 F0 E Z G H ρ M R sr e k1 k2=>⟨G,ρ,M,_,sr.st,e,zD_⟩
def Jr:WS:=λ_ _ _=>False
def lR:MS X own bc st Jr:=⟨λM0 G0 F0 Y s Z H E I ⟨G,ρ,M,R,sr,e,k1,k2⟩=>e.elim⟩
def Ga(C:xz!)(x:Str)(fo f:WE):WS:=λρ M R=>f ρ M λy M1=>fo ρ M1 λd M2=>match d with
 |.fn p=>(match M2 p with|some (.obj C' fs)=>C'=C/\bj_<100/\R ad_ zE_|_=>False)
 |_=>False
def fS(c:ex!)(n:Dx X.K C x)(ho:dk_)(h:bu_)(hs:swapsWith e (some (.Attribute o x p2)) pos.line X.env=pure false:=by rfl):MS X own own (.Assign [.Attribute o x p2] e pos) (Ga C x fo f):=
 oS (c6s ho.ok h.ok hs) λM0 G0 F0 E Z G H ρ M R sr e k1 k2=>⟨G,ρ,M,_,sr.st,e,λy M1 v G1 H1 r1 x1 m1 q1=>⟨G1,ρ,M1,_,sr.st.grow x1 m1,r1,λd M2 u G2 H2 r2 x2 m2 q2=>by
  cases d<;>first|exact r2.elim|skip
  rename_i p;cases fM q2;dsimp only at r2;split at r2
  .rename_i C' fs hM;obtain⟨hC,hl,r2⟩:=r2;subst hC;obtain⟨_,dx,vs,h3,h4⟩:=m2.cell p _ hM;have av:bj_=a4_:=NT h4;exact⟨p,_,dx,vs,rfl,h3,c,n,s_,k1 ρ _ G2 Z _ r2 ((zG!).grow (.write m2 x2.sub hM) (m2.write hM ⟨dx,_,bQ,b1b bv! h4⟩))⟩
  .exact r2.elim⟩⟩
def Jv(M:Mh)(d y v:D):Option Mh:=match d with
 |.fn p=>match M p with
  |some (.dct h1 ep)=>if(fr!).isSome&&decide (ax_<big)then some fs_ else none
  |some (.lst xs)=>match y with
   |.int j=>(Du xs.length j).map λk=>mup M p (.lst (xs.set k v))
   |_=>none
  |_=>none
 |_=>none
def BK(P:z7!)(w:yO!)(K:zY!):V->V->V->Hp->lX_->Prop:=λo i v H Q=>∃(M:Mh) (G:Hp) (a:xz!) (h1:j!) (ep:Nat) (d x:D) (k:MK),o=.ref a/\Ba G H/\MR P w K M G H/\M a=some ho!/\Aq K G d i/\Df d=some k/\Aq K G x v/\ax_<big/\
 ∀a7,Gw P w K G kx! a yV!->Q kx!
def c1h(hu:an_):Vw X (BK X.prog X.w X.K):=by intro Y s Z H o i v ov iv u Q I ro ri rv h;obtain⟨M,G,a,h1,ep,d,x,k,rfl,sub,m,e,r,hk,rx,hl,q⟩:=h;cases ro;exact a8m (A:=X.A) a! I m sub e ⟨_,r,ri⟩ hk ⟨_,rx,rv⟩ hl λa7 s' I' c'=>⟨_,I',q a7 c'⟩
def c1s{r r':Yi}(h:Vw X r)(h':Vw X r'):Vw X (λo i v H Q=>r o i v H Q\/r' o i v H Q):=by
 intro Y s Z H o i v ov iv u Q I ro ri rv q;obtain q|q:=q
 .exact h Y s Z H o i v ov iv u Q I ro ri rv q
 .exact h' Y s Z H o i v ov iv u Q I ro ri rv q
def Bx(fo fi f:WE):WS:=λρ M R=>f ρ M λv M1=>fo ρ M1 λd M2=>fi ρ M2 λy M3=>Fc py! λM4=>R ad_ M4
def dB{fi:WE}(hu:an_)(ho:dk_)(hi:ME X own i fi)(h:bu_)
  (ha:∀v,assign zK_ X.env v=(do
   let ov <-holding [v] dw_
   let iv <-holding [v,ov] rq!
   standAt p2
   holding ep! l1_
   release ep! []):=by intro _;rfl)
  (hs:swapsWithSole kM_ e pos.line X.env=pure false:=by rfl) (hw:swappedStores kM_ e X.env=pure none:=by rfl)
  (J:(assignEach kM_ X.env).map M!=[assign zK_ X.env]:=by rfl):MS X own own (.Assign kM_ e pos) (Bx fo fi f):=
 oS (b5x h.ok (b6e ho.ok hi.ok (c1s a2h (c1h hu)) ha) hs hw J) λM0 G0 F0 E Z G H ρ M R sr e k1 k2=>⟨G,ρ,M,_,sr.st,e,λv M1 vv G1 H1 r1 x1 m1 q1=>⟨G1,ρ,M1,_,sr.st.grow x1 m1,r1,λd M2 dv G2 H2 r2 x2 m2 q2=>
  ⟨G2,ρ,M2,_,(sr.st.grow x1 m1).grow x2 m2,r2,λy M3 yv G3 H3 r3 x3 m3 q3=>by
   obtain⟨M4,e4,r4⟩:=cR r3;have vb:=(zG!).grow x3 m3;have qd:=q2.mono x3.g;have qv:=(bv!).mono x3.g;unfold Jv at e4;split at e4
   .rename_i p;cases fM qd;split at e4
    .rename_i h1 ep hM;split at e4
     .rename_i hc;rw[JD,JC]at hc;cases e4;obtain⟨kk,hk⟩:=QL.mp hc.1;exact .inr ⟨M3,G3,p,h1,ep,y,v,kk,rfl,x3.sub,m3,hM,q3,hk,qv,hc.2,λa7 c'=>k1 ρ _ G3 Z _ r4 (vb.grow zL_ (m3.write hM c'))⟩
     .cases e4
    .rename_i xs hM;split at e4
     .rename_i j;cases aZ q3;obtain⟨n,e5,rfl⟩:=IA.mp e4;obtain⟨_,vs,h3,h4⟩:=m3.cell p _ hM;exact .inl ⟨p,vs,j,n,rfl,rfl,h3,by rw[<-aI h4];exact e5,k1 ρ _ G3 Z _ r4 (vb.grow zL_ (m3.write hM ⟨_,bQ,tS qv n h4⟩))⟩
     .cases e4
    .cases e4
   .cases e4⟩⟩⟩
def So(i:Nat)(f:WE):WS:=λρ M R=>match ρ[i]? with
 |some (some (.int a))=>f ρ M λd M1=>(match d with|.int b=>R (.nx (ρ.set i (some (.int (a+b))))) M1|_=>False)
 |_=>False
def b7m{i:Nat}(hN:aT_)(hi:aa_)(hx:a2_)(h:bu_)(bt:aP!:=by decide)
  (hf:X.fn x=true\/X.env.scope.names.lookup x=some .local:=by first|exact .inl rfl|exact .inr rfl|assumption):MS X own own (.AugAssign db! .Add e pos) (So i f):=
 oS (c6t hN hi hx h.ok c8l hf) λM0 G0 F0 E Z G H ρ M R sr e k1 k2=>by
  unfold So at e;show"!8"
  .rename_i a nq;obtain⟨v,J,h2⟩:=sr.st.or.at_ i _ nq bt;cases aZ h2;refine⟨_,J,G,ρ,M,_,sr.st,e,zM_⟩;cases d<;>first|exact r.elim|skip
   cases aZ q;exact⟨a,_,rfl,rfl,k1 _ M' G' _ H' r ((pw!).set bt Aq.int)⟩
  .exact e.elim
def Di(ft:WT)(q:WS):Nat->WS
 |0=>λ_ _ _=>False
 |n+1=>λρ M R=>ft ρ M λb M1=>if b then q ρ M1 (λr M2=>match r with|.nx ba=>Di ft q n ba M2 R|.rt d=>R aP_ M2)else R ad_ M1
def Kt(ft:WT)(q:WS):WS:=λρ M R=>∃n,Di ft q n ρ M R
def lQ(hp:fX!)(hc:ku_)(hb:zN!):MS X own own rw_ (Kt ft q1):=⟨λM0 G0 F0 Y s Z H E I ⟨G,ρ,M,R,sr,⟨n,e⟩,k1,k2⟩=>by
 refine b5t hp hc.ok (hb.ok M0 G0 F0) Y s Z H E I ⟨λm ac H'=>∃G' ρ' M',Iq X.prog X.w X.K own M0 G0 F0 M' G' H' ac ρ'/\Di ft q1 m ρ' M' R,⟨n,G,ρ,M,sr,e⟩,?_⟩;rintro m ac H' ⟨G',ρ',M',dh,e'⟩;cases m with
 |zero=>exact e'.elim
 |succ m=>
  refine⟨G',ρ',M',_,dh.st,e',λb M1 G1 H1 r1 x1 m1=>?_⟩;cases b with
  |true=>exact kD ⟨λc9 H2=>∃G2 ba M2,Iq X.prog X.w X.K own M0 G0 F0 M2 G2 H2 c9 ba/\Di ft q1 m ba M2 R,λc9 H2 h=>⟨m,OL m,h⟩,G1,ρ',M1,_,dh.grow x1 m1,r1,λba M2 G2 c9 H2 r2 xo=>⟨G2,ba,M2,xo,r2⟩,λd M2 v G2 H2 r2 x2 m2 q2=>k2 d M2 v G2 H2 r2 x2 m2 q2⟩
  |false=>exact kW (k1 ρ' M1 G1 ac H1 r1 (dh.grow x1 m1))⟩
end
def DU(P:z7!)(w:yO!)(K:zY!)(af:It)(ds:b!)(ck:cF_)(G1:Hp):Prop:=∀(i:Nat) (M':Mh) (G' H':Hp),Ba G1 G'->Ba G' H'->MR P w K M' G' H'->ck M'->
 wu_/\wv!
abbrev WI:=Ad->Mh->(List D->(Mh->Prop)->Mh->Prop)->Prop
inductive FP(P:z7!)(w:yO!)(K:zY!)(own:k!)(fi:WI)(Z:St)(H:Hp)(R:fY!):Prop
 |mk (G:Hp) (ρ:Ad) (M:Mh) (T:List D->(Mh->Prop)->Mh->Prop) (st:hl!) (e:fi ρ M T) (k:∀ds ck M1 af G1 H1,T ds ck M1->XM M G H M1 G1 H1->MR P w K M1 G1 H1->DU P w K af ds ck G1->R af H1):FP P w K own fi Z H R
structure MI(X:Cx)(own:k!)(tg iter:Expr)(fi:WI):Prop where
 ok:PI X tg iter (FP X.prog X.w X.K own fi)
section
variable{X:Cx}{own bc f9:List Nat}{st:Stmt}{rest body:List Stmt}{e a b c tg o:Expr}{es:List Expr}{pos p2:Pos}{f fa fb fc fo:WE}{fs:WA}{fi:WI}{ft fu:WT}{q1 q2 q3:WS}{di:Ad->Option (List D)}
def c5k{wi:TI}(h:PI X tg e wi)(hw:∀Z G H R ρ M T,Si X.prog X.w X.K own G H Z ρ M->fi ρ M T->(∀ds ck M1 af G1 H1,T ds ck M1->XM M G H M1 G1 H1->MR X.prog X.w X.K M1 G1 H1->DU X.prog X.w X.K af ds ck G1->R af H1)->wi Z H R):MI X own tg e fi:=
 ⟨λY s Z H R I ⟨G,ρ,M,T,st,e,k⟩=>h Y s Z H R I (hw Z G H R ρ M T st e k)⟩
def Ja(di:am!):WI:=λρ M T=>Fc (di ρ) λds=>T ds aj! M
def Yk.m{K:zY!}{af:It}{G1:Hp}(h:Yk K af ds G1):DU P w K af ds aj! G1:=λi M' G' H' s1 s2 _ _=>h i G' H' s1 s2
def nJ(h:DI X own tg e di):MI X own tg e (Ja di):=c5k h.ok λZ G H R ρ M T st e k=>by
 obtain⟨ds,e1,e2⟩:=cR e;exact⟨G,ρ,ds,st.or,e1,λaf G1 H1 x fg=>k ds _ M af G1 H1 e2 (.ext x) o6! fg.m⟩
def Fz(f:WE):WI:=λρ M T=>f ρ M λd M1=>match d with
 |.lst xs=>T xs aj! M1
 |.fn p=>(match M1 p with|some (.lst xs)=>T xs (λM=>M p=some Q_) M1|_=>False)
 |_=>False
def iA(h:aw!):MI X own tg a (Fz fa):=c5k (a9w h.ok) λZ G H R ρ M T st e k=>⟨G,ρ,M,_,st,e,λd M1 v G1 H1 r1 x1 m1 q1=>by
 cases d<;>first|exact r1.elim|skip
 .obtain⟨p,vs,rfl,q,rr⟩:=bO q1;exact⟨p,rfl,⟨vs,x1.sub.seq q⟩,k _ _ M1 _ G1 H1 r1 x1 m1 (a4h q rr).m⟩
 .rename_i p;cases fM q1;dsimp only at r1;split at r1
  .rename_i xs hM;obtain⟨_,vs,J,h2⟩:=m1.cell p _ hM;refine⟨p,rfl,⟨vs,Fh.of J⟩,k _ _ M1 _ G1 H1 r1 x1 m1 λi M' G' H' s1 s2 m' ck=>?_⟩;obtain⟨_,gb,h3,h4⟩:=m'.cell p _ ck;have q':Fh X.K H' p gb:=Fh.of h3;refine⟨dT_,λhi=>⟨gb,q',by rw[<-aI h4,hi];exact IN _⟩⟩;obtain⟨v,g1,g2⟩:=gH h4 hd;refine⟨⟨gb,v,q',g1⟩,gV_⟩;obtain⟨e1,e2⟩:=hy;subst e1;have:=e2 gb q';rw[g1]at this;cases this;exact⟨G',jL_,g2⟩
  .exact r1.elim⟩
def Ih(bnd:ad!)(ck:cF_)(q:WS):List D->WS
 |[]=>λρ M R=>ck M/\R ad_ M
 |d::ds=>λρ M R=>ck M/\Fc jM! λam=>q am M λr M1=>match r with|.nx ba=>Ih bnd ck q ds ba M1 R|.rt d=>R aP_ M1
def Ec(fi:WI)(bnd:ad!)(q:WS):WS:=λρ M R=>fi ρ M λds ck M1=>Ih bnd ck q ds ρ M1 R
def FK(K:zY!)(own:k!)(g:TG)(bnd:ad!):Prop:=∀{P:z7!} {w:yO!} {x:V} {d:D} {Z:St} {M0 M:Mh} {G0 F0 G H:Hp} {ρ am:Ad} {Q:im_},Iq P w K own M0 G0 F0 M G H Z ρ->Aq K G d x->bnd d ρ=some am->(∀bw,Iq P w K own M0 G0 F0 M G H bw am->Q bw H)->g x Z H Q
def dN{K:zY!}(i:Nat)(hi:aP!:=by decide):FK K own eo_ (Cq i):=by intro P w x d Z M0 M G0 F0 G H ρ am Q sr r e k;cases e;exact k _ (sr.set hi r)
def Vh(i j:Nat):D->Ad->Option Ad:=λd ρ=>match d with|.tup [x,y]=>some ((ρ.set i bz!).set j (some y))|_=>none
def b9c{K:zY!}(i j:Nat)(hi:aP!:=by decide)(hj:j∉own:=by decide):FK K own wx_ (Vh i j):=by
 intro P w x d Z M0 M G0 F0 G H ρ am Q sr r e k;unfold Vh at e;show"!8"
 .cases e;show"!V";show"!5";exact⟨p,[v1,v2],rfl,bT sr.st.or.sub q,rfl,v1,[v2],rfl,v2,[],rfl,rfl,k _ ((sr.set hi r1).set hj r2)⟩
 .cases e
def Iq.base{K:zY!}{M0 M1:Mh}{G0 F0 G1 H1:Hp}{Z:St}{ρ:Ad}(s:pA!):Iq P w K own M1 G1 hx_ M1 G1 H1 Z ρ:=
 ⟨s.st,⟨Ba.refl _,s.st.or.sub,db_,λb o e _=>s.sr.ext.h b o e,db_,λb h=>h⟩,λi hi p e=>s.sr.fr i hi p e⟩
def Iq.unx{K:zY!}{M0 M1 M':Mh}{G0 F0 G1 H1 G' H':Hp}{Z:St}{ρ:Ad}(s:pA!)(y:XM M1 G1 hx_ M' G' H'):XM M0 G0 F0 M' G' H':=by
 refine⟨s.x.g.trans y.g,y.sub,bd!,zv_,bd!,λb h=>y.cells b (s.x.cells b h)⟩
 .obtain z|z:=y.new b h
  .exact s.x.new b z
  .exact pt_
 .refine y.keep b o ?_ ?_
  .unfold Gf;rw[zw!];exact s.x.keep b o e hb
  .cases q:M1 b with
   |none=>rfl
   |some c=>
    rcases s.x.dom b cn_ with z|z
    .exact absurd hb z
    .rw[e]at z;cases z
 .obtain z|z:=y.dom b h
  .exact s.x.dom b z
  .exact pt_
def Iq.unbase{K:zY!}{M0 M1 M':Mh}{G0 F0 G1 H1 G' H':Hp}{Z ac:St}{ρ ρ':Ad}(s:pA!)(s':Iq P w K bc M1 G1 hx_ M' G' H' ac ρ'):Iq P w K bc M0 G0 F0 M' G' H' ac ρ':=
 ⟨s'.st,s.unx s'.x,λi hi p e=>s.noF (s'.fr i hi p e)⟩
def fB{g:TG}{bnd:ad!}(hp:fX!)(hc:ay!)(ar:pC!)(hg:l2!)(na:FK X.K own g bnd)(hb:zN!)
  (hs:cQ_:=by intro _;rfl):MS X own own rZ_ (Ec fi bnd q1):=⟨λM0 G0 F0 Y s Z H E I ⟨G,ρ,M,R,sr,e,k1,k2⟩=>by
 have gc:Ox X body (λE Z H=>∃A B C,AM X.prog X.w X.K A B C own own q1 E Z H):=λY s Z H E I ⟨A,B,C,h⟩=>hb.ok A B C Y s Z H E I h;refine b5w hp hc ar.ok hg gc hs Y s Z H E I ⟨G,ρ,M,_,sr.st,e,λds ck M1 af G1 H1 r1 x1 m1 fg=>?_⟩;have xq:=sr.grow x1 m1;refine⟨λn m ac H'=>n<=f_/\m=f_ - n/\∃G' ρ' M',Iq X.prog X.w X.K own M1 G1 hx_ M' G' H' ac ρ'/\Ih bnd ck q1 nI_ ρ' M' R,
  ⟨f_,JK _,rfl,G1,ρ,M1,xq.base,r1⟩,?_⟩
 rintro n m ac H' ⟨hn,rfl,G',ρ',M',dh,e3⟩;have g9:ck M':=by
  cases hd:ds.drop n with
  |nil=>rw[hd]at e3;exact e3.1
  |cons _ _=>rw[hd]at e3;exact e3.1
 obtain⟨m8,m9⟩:=fg n M' G' H' dh.x.g dh.st.or.sub dh.st.mr g9;by_cases au:n<f_
 .right;have hd:ds[n]?=some ds[n]:=by simp[au]
  rw[ND au]at e3;obtain⟨_,e3⟩:=e3;obtain⟨am,e4,e3⟩:=cR e3;obtain⟨go,yl⟩:=m8 _ hd;refine⟨go,λc9 H2=>∃G2 ba M2,Iq X.prog X.w X.K own M1 G1 hx_ M2 G2 H2 c9 ba/\Ih bnd ck q1 (ds.drop cy_) ba M2 R,λc9 H2 ⟨G2,ba,M2,J,h3⟩=>⟨f_ - cy_,s_,au,rfl,G2,ba,M2,J,h3⟩,jP_⟩;obtain⟨G2,x2,r2⟩:=yl v H2 hy;have xo:=dh.grow kE! (dh.st.mr.ext x2);exact na xo r2 e4 λgi vb=>⟨M1,G1,Gf own Z H1,G2,am,M',_,vb,e3,λs9 M4 G4 σ4 H4 r4 XB=>⟨G4,s9,M4,XB,r4⟩,λd M4 v G4 H4 r4 x4 m4 q4=>k2 d M4 v G4 H4 r4 (xq.unx x4) m4 q4⟩
 .left;have iu:n=f_:=by omega
  refine ol!;rw[iu,QT]at e3;exact k1 ρ' M' G' ac H' e3.2 (xq.unbase dh)⟩
def Qn(bnd:ad!)(ck:cF_)(ft:WT)(fe:WE)(ρ:Ad):List D->Mh->wz_->Prop
 |[],M,R=>ck M/\R [] M
 |d::ds,M,R=>ck M/\Fc jM! λam=>ft am M λb M1=>if b then fe am M1 λy M2=>Qn bnd ck ft fe ρ ds M2 λys M3=>R (y::ys) M3 else Qn bnd ck ft fe ρ ds M1 R
def Da(nl:Nat)(ix:k!)(fi:WI)(bnd:ad!)(ft:WT)(fe:WE):WE:=λρ M R=>fi ρ M λds ck M1=>f_<=big/\Qn bnd ck ft fe nL_ ds M1 λys M2=>R bb! M2
def b1j{K:zY!}{af:It}{ds:b!}{ck:cF_}{M1:Mh}{G1 H1:Hp}{g:TG}{bnd:ad!}{fe:WE}{j0:Ad}{sh:St}{Fin:cN!}{R:o4_}
  (hb:f_<=big)(fg:DU P w K af ds ck G1)(hg:GD K g bnd)(er:Si P w K [] G1 H1 sh j0 M1)(e:Qn bnd ck ft fe j0 ds M1 R)(k:∀jl ys M' G' H',R jl M'->XM M1 G1 H1 M' G' H'->MR P w K M' G' H'->Al K G' jl ys->jl.length<=f_->Fin ys H'):
  Vj af g (Yn P w K [] ft) (AX P w K [] fe) Fin sh H1:=by
 refine⟨λi m ys ac H'=>i<=f_/\m=f_ - i/\∃G' M' ws,XM M1 G1 H1 M' G' H'/\Si P w K [] G' H' ac j0 M'/\Al K G' ws ys/\mX_<=i/\Qn bnd ck ft fe j0 (ds.drop i) M' λr M2=>R (ws++r) M2,
  ⟨f_,JK _,rfl,G1,M1,[],.refl er.or.sub,er,Al.nil,JK _,e⟩,?_⟩
 rintro i m ys ac H' ⟨hi,rfl,G',M',ws,x,cr,az,hw,e2⟩;refine wy!;have g9:ck M':=by
  cases hd:ds.drop i with
  |nil=>rw[hd]at e2;exact e2.1
  |cons _ _=>rw[hd]at e2;exact e2.1
 obtain⟨m8,m9⟩:=fg i M' G' H' x.g cr.or.sub cr.mr g9;by_cases au:i<f_
 .right;have hd:ds[i]?=some ds[i]:=by simp[au]
  rw[ND au]at e2;obtain⟨_,e2⟩:=e2;obtain⟨am,e1,e2⟩:=cR e2;obtain⟨go,yl⟩:=m8 _ hd;refine⟨go,jP_⟩;obtain⟨G2,x2,r2⟩:=yl v H2 hy;have cx:=cr.grow kE! (cr.mr.ext x2);have XC:XM M1 G1 H1 M' G2 H2:=x.trans kE! cr.mr;refine hg cx.or r2 e1 λbw m7 si=>⟨G2,am,M',_,zR!,e2,λb M3 G3 H3 r3 x3 m3=>?_⟩;have j3:=(show Si P w K [] G2 H2 bw am M' from zR!).grow x3 m3;have k8:=XC.trans x3 cx.mr;cases b with
  |true=>
   refine kD ⟨G3,am,M3,_,j3,r3,λy M4 u G4 H4 r4 x4 m4 q4=>⟨f_ - ab_,s_,au,rfl,G4,M4,ws++[y],k8.trans x4 m3,⟨(j3.grow x4 m4).or.le si,m4,au!⟩,?_,?_,?_⟩⟩
   .exact cU wz! (Al.cons q4 Al.nil)
   .rw[JA,LQ];omega
   .have e5:(λr M2=>R (ws++[y]++r) M2)=λr M2=>R (ws++y::r) M2:=by
     funext r M2;rw[KL];rfl
    rw[e5];exact r4
  |false=>
   exact kW ⟨f_ - ab_,s_,au,rfl,G3,M3,ws,k8,⟨j3.or.le si,m3,au!⟩,(oa_).mono x3.g,s_,r3⟩
 .left;have iu:i=f_:=by omega
  refine ol!;rw[iu,QT]at e2;have this:R (ws++[]) M':=e2.2;rw[JH]at this;exact k ws ys M' G' H' this x cr.mr az a!
def sL{scope:Scope}{NL:o!}{ix:k!}{g:TG}{bnd:ad!}{fe:WE}
  (cj:c6_)(cf:c7!)(jz:∀y∈b1_,y.2=.local->scope.names.lookup y.1=some .local)
  (gw:gK_)(cap:c6!)(hix:jw!)(calm:ay!)(ar:pC!)
  (hg:gL!)(na:ob!)(hi:zS!)(he:zS_)
  (hs:cQ_:=by intro _;rfl):
  ME X own gI! zT!:=
 eX wB_ λZ G H Q ρ M R st e k=>⟨G,ρ,M,_,st,e,λds ck M1 af G1 H1 r1 x1 m1 fg=>by
  obtain⟨hb,r1⟩:=r1;have px:=st.grow x1 m1;refine b1j hb fg na zU! r1 λjl ys M' G' H' r x m q _ p hp=>?_;exact k _ M' _ _ _ r ((x1.trans x m1).trans (.ext gX!) m) (m.ext gX!) (dM ob_ q)⟩
def a3v:Pc X [] (Yn X.prog X.w X.K [] λρ M R=>R true M):=λY s Z H Q I ⟨G,ρ,M,R,st,e,k⟩=>a3c Y s Z H Q I (k true M G H e kt! st.mr)
def xQ(h:MT X [] c ft):Pc X [c] zR_:=a3b h.ok
abbrev WF:=List D->Mh->o3_->Prop
def Xi(P:z7!)(w:yO!)(K:zY!)(n:Nat)(g:WF):Sp:=λvs H Q _=>a4_=n/\∃G ds M R,Ba G H/\MR P w K M G H/\Al K G ds vs/\g ds M R/\∀d M' v G' H',R d M'->XM M G H M' G' H'->MR P w K M' G' H'->Aq K G' d v->Q v H'
def Ms(P:z7!)(w:yO!)(K:zY!)(mg:x!)(base:Heap)(k:Nat)(x:Str)(ps:o!)(g:WF):Prop:=
 ∃ag fd,Fk P w K mg base Pd k ag fd ps pG!/\Ex K fd ps []/\mg x=some be!/\W.keepIn K be!=true
nonrec def gl(g:ac_):WF:=λds M R=>Fc (g ds) λd=>R d M
def Ao(n:Nat)(g:WF)(fs:WA):WE:=λρ M R=>fs ρ M λds M1=>f_=n/\g ds M1 R
def aU{k:Nat}{ps:o!}{g:WF}{x:Str}(F:Ms X.prog X.w X.K X.mg X.base k x ps g)(hr:bn_)(hg:J!)(ha:d5!)
  (a8:y_:=by decide)(he:ag!:=by rfl)(ax:aF!:=by rfl):
  ME X own a9_ (Ao ps.length g fs):=by
 show"#%";refine eX (zQ J hr hg h3 h4 h2 .nil uB ha.ok a8 he ax) λZ G H Q ρ M R st e' k=>⟨G,ρ,M,_,st,e',zV!⟩;show Xi X.prog X.w X.K ps.length g (vs++[]) H1 Q E0;rw[JH];exact⟨zV_,G1,ds,M1,R,x1.sub,m1,q1,r1.2,o7!⟩
def Ew(P:z7!)(w:yO!)(K:zY!)(mg:x!)(base:Heap)(k:Nat)(C:xz!)(m:Str)(ps:o!)(g:WF):Prop:=
 Ua K C/\∃ag fd,Xd K C m ag/\Fk P w K mg base Pd k ag fd ps pG!/\Ex K fd ps []
def Ed(C:xz!)(m:Str)(M:Mh)(d:D):Prop:=match d with
 |.fn p=>(match M p with|some (.obj C' fs)=>C'=C/\fs.lookup m=none|_=>False)
 |_=>False
def a4i{K:zY!}{M:Mh}{G H:Hp}(mr:b7_)(r:cs!)(h:kR!):∃p dx vs,d=.fn p/\v=.ref p/\H p=some yD!/\vs.lookup m=none:=by
 unfold Ed at h;split at h
 .rename_i p;cases fM r;split at h
  .rename_i C' fs hM;obtain⟨rfl,hl⟩:=h;obtain⟨_,dx,vs,J,h2⟩:=mr.cell p _ hM;exact⟨p,dx,vs,rfl,rfl,J,a4q h2 hl⟩
  .exact h.elim
 .exact h.elim
def Bd(C:xz!)(m:Str)(n:Nat)(g:WF)(fo:WE)(fs:WA):WE:=λρ M R=>fo ρ M λd M1=>Ed C m M1 d/\fs ρ M1 λds M2=>f_+1=n/\g dP_ M2 R
def cJ{k:Nat}{ps:o!}{g:WF}{ay:Pos}{pl:eu!}(F:zW!)(hr:bn_)(ho:dk_)(ha:d5!)
  (hst:ag!:=by rfl)(ax:aF!:=by rfl)
  (ht:eval eD! X.env=(do
   let ov <-eval o X.env
   standAt iO!
   let(f,first) <-holding [ov] iO_
   callWith pos f first mR! ge!):=by rfl):ME X own eD! zW_:=by
 obtain⟨cl,ag,fd,J,h2,h3⟩:=F;refine eX (a9z (pl:=pl) ho.ok cl J h2 hr h3 .nil uB ha.ok hst ax ht) λZ G H Q ρ M R st e' k=>⟨G,ρ,M,_,st,e',pG_⟩;show"!f";refine⟨p,dx,vs,rfl,hH,hl,G1,ρ,M1,_,kt_,r1,zX!⟩;show"!q"
def Vy(P:z7!)(w:yO!)(K:zY!)(mg:x!)(base:Heap)(k:Nat)(x:Str)(C:xz!)(ps:o!)(g:WF):Prop:=
 mg x=some W!/\∃ag fd,Mk K C ag/\Fk P w K mg base Pd k ag fd ps pG!/\Ex K fd ps []
def Hj(C:xz!)(n:Nat)(g:WF)(fs:WA):WE:=λρ M R=>fs ρ M λds M1=>f_+1=n/\∀p,M1 p=none->g (.fn p::ds) (mup M1 p pH!) λd M2=>d=.non/\R z! M2
def b7v{K:zY!}{M1:Mh}{G1 H1:Hp}(sub:Ba G1 H1)(m1:yE!)(hx:H1 x=none)(jq:H1 dx=none)(ne:dx≠x):
  XM M1 G1 H1 zZ_ G1 mQ!/\MR P w K zZ_ G1 mQ!:=by
 have old:∀b o,H1 b=some o->upd qZ_ x lJ_ b=some o:=λb o e=>by rw[aY (cC e hx),aY (cC e jq)];exact e
 refine⟨⟨Ba.refl G1,λb o e=>old b o (sub b o e),db_,λb o e _=>old b o e,bd!,bd!⟩,⟨λb q e=>?_⟩⟩
 .by_cases hb:b=x
  .subst hb;exact .inr hx
  .rw[cD_]at h;exact .inl h
 .by_cases hb:b=x
  .subst hb;rw[mup_same];simp
  .rw[cD_];exact h
 .by_cases hb:b=x
  .show"#$";exact⟨sub.free hx,dx,[],bQ,.nil⟩
  .rw[cD_]at e;obtain⟨J,h2⟩:=m1.cell b q e;refine⟨J,h2.mono (Ba.refl G1) ?_⟩;cases hq:H1 b with
   |none=>exact absurd hq h2.has
   |some o=>exact old b o hq
def c2z{k:Nat}{x:Str}{ps:o!}{g:WF}(F:z0!)(hr:gh!)(hg:J!)(ha:d5!)
  (a8:y_:=by decide)(he:ag!:=by rfl)(ax:aF!:=by rfl):ME X own a9_ (Hj C ps.length g fs):=by
 obtain⟨hm,ag,fd,J,h2,h3⟩:=F;refine eX (c2a J h2 hr hg hm h3 .nil uB ha.ok a8 he ax) λZ G H Q ρ M R st e' k=>⟨G,ρ,M,_,st,e',λds M1 vs G1 H1 r1 x1 m1 q1=>λy dx hy jq ne=>?_⟩;obtain⟨z1,z2⟩:=b7v (C:=C) x1.sub m1 hy jq ne;rw[JH];exact⟨by rw[IH,<-aI q1];exact r1.1,G1,.fn y::ds,_,_,z1.sub,z2,Al.cons Aq.fn q1,r1.2 y (m1.nocell hy),λd M2 v G2 H2 r2 x2 m2 q2=>by
  obtain⟨rfl,r2⟩:=r2;exact⟨dR q2,k _ M2 _ G2 H2 r2 ((x1.trans z1 m1).trans x2 z2) m2 Aq.fn⟩⟩
def lT{k:Nat}{x:Str}{ps:o!}{g:WF}(F:z0!)(hr:gh!)(hg:J!)
  (a8:y_:=by decide):ME X own tc! (Hj C ps.length g Af):=by
 obtain⟨hm,ag,fd,J,h2,h3⟩:=F;refine eX (b6k J h2 hr hg hm h3 .nil uB a8) λZ G H Q ρ M R st e' k=>λy dx hy jq ne=>?_;obtain⟨z1,z2⟩:=b7v (C:=C) st.or.sub st.mr hy jq ne;have r1:[].length+1=R_/\∀p,M p=none->g (D.fn p::[]) (mup M p pH!) λd M2=>d=.non/\R z! M2:=e';exact⟨r1.1,G,[.fn y],_,_,z1.sub,z2,Al.cons Aq.fn Al.nil,r1.2 y (st.mr.nocell hy),λd M2 v G2 H2 r2 x2 m2 q2=>by
  obtain⟨rfl,r2⟩:=r2;exact⟨dR q2,k _ M2 _ G2 H2 r2 (z1.trans x2 z2) m2 Aq.fn⟩⟩
def Ci(N:o!)(n:Nat)(q:WS):WF:=λds M R=>f_=n/\q g0_ M λr M'=>match r with|.rt d=>R d M'|.nx _=>R .non M'
end
def sT{K:zY!}{mg:x!}{st:Stmt}{ps:o!}{k:Nat}{ae:k!}{q:WS}
  (F:wR!)(S:c5!)
  (hb:∀(ah:xT!) (A:x8!) (outer:P_) (s:z6!) (H:Hp) (E:XK),Ak k om!->Tz (om_).nox [] ae bs! q):
  Fk P w K mg base Pd M_ ag fd ps (Xi P w K ps.length kR_):=by
 refine wS!;obtain⟨hl,G,ds,M,R,sub,m,r,e,kk⟩:=h;refine⟨_,(wS_).ok M G H,?_⟩;have er:=tG (N:=N) sub r;exact z2_
section
variable{P:z7!}{w:yO!}{A:x8!}{E:Value->Shared->Prop}{s:z6!}{d it:xz!}{es:List DictEntry}{ep i:Nat}
def Oa.at{h h':Heap}(D:Oa h d es ep)(e:∀o,h.get? d=some o->h'.get? d=some o):Oa h' d es ep:=let⟨o,ho,r⟩:=D;⟨o,e o ho,r⟩
def b8r{Q:l_}(hd:z3_)(D:pI_)
  (h:Q bl_ {s with heap:=s.heap.push {cls:=.type "dict_keyiterator",data:=.fields #[.ref d,.int 0 0,.int es.length 0,.int ep 0]}}):wpAny C! A (pyIter (.ref d)) Q E s:=by
 have hT:=D.typeIs;obtain⟨o,ho,hc,TW⟩:=id D;refine wpAny_pyIter_slot hT PySem.F.slot_dict_iter (JR PySem.F.slot_dict_iter hT PySem.F.entry_dict_iter ?_ (PySem.F.args_dict_iter_1 _));unfold Builtin.«dict.__iter__» Builtin.Dict.dictSlotNone;refine HM pf!;show wpAny C! A.in1 (Builtin.Dict.showsAll d>>=_) _ _ s;unfold Builtin.Dict.showsAll;rw[IF (by rw[hd];exact IV)];refine HM (HP (HM (MV ho TW (HM (MY ho TW (HM (KY (HP ⟨_,rfl,"dict_keyiterator",_,j6!,LD.lookup,?_⟩))))))));simpa[rawInt]using h
def a3o{Q:cA_}{e:DictEntry}(ar:z4_)(D:pI_)(hx:es[i]?=some e)
  (h:∀h',h'.IsKeyIter it d ab_ es.length ep->Heap.SameBut it s.heap h'->Q (some e.key) {s with heap:=h'}):wpAny C! A ip_ Q E s:=by
 show"!W";obtain⟨au,nr⟩:=IJ.mp hx;show"#-"
 first|refine HM (NU hT kT_)|refine HM (OY hT kT_)
 show"!R";refine HM z8!;rw[T_];refine HP ?_;simp only[z8_,JT,NK,NB,hx];refine HM ?_
 first|refine HM (NU hT z9_)|refine HM (OY hT z9_)
 show wpAny C! A.in1 (setField bS! 1 pK_>>=_) _ _ s;have ja:(s.heap.update it Aa_).IsKeyIter it d ab_ es.length ep:=
  ⟨_,LF _ ho (NI (MF hd _)),(xq_).trans hc,by rw[MF hd];simp[rawInt]⟩
 refine HM (OT ho hd b_ (HM (JS (HM (RM (s:={s with heap:=s.heap.update it Aa_}) ja.typeIs ?_)))));exact HP (HP ⟨_,rfl,HP (h _ ja dY!)⟩)
def b1d{Q:cA_}(hh:bo_)(ar:z4_)(D:pI_)(hx:ae!<=i)
  (h:Ab!):wpAny C! A ip_ Q E s:=by
 show"!W";show"#-"
 first|refine HM (NU hT kT_)|refine HM (OY hT kT_)
 show"!R";refine HM z8!;rw[T_];refine HP ?_;simp only[z8_,JT,NK,NB,KJ hx];refine HM ?_
 first|refine HM (NU hT O_)|refine HM (OY hT O_)
 show wpAny C! A.in1 (setField bS! 0 .none>>=_) _ _ s;refine HM (OT ho hd b_ ?_);refine HM ?_;simp only[newExc,newTuple];refine HM (KY (HM (m:=xr!) (wpAny_of_eq (a:=ce_) xr_ (KY ?_ g9!))) g9!);simp only[raiseNew];refine HM xs_;rw[xs!];refine HM xt!;refine HM (wpAny_isInstance (T:=oD!) (b:=true) (show Shared.TypeIs _ _ _ from j6!) isSubtype_stop ?_);exact HP (h _ xu!)
def b1q(hh:bo_)(I d:xz!)(hne:d≠I)(es:Y_)(ep:Nat):Walks P w A I [I,d] [I] es.length pL! (λi h=>h.IsKeyIter I d i es.length ep/\Oa h d es ep) where
 sub:=λb hb=>by simp at hb;simp[hb]
 frame:=λ_ _ _ st hk=>⟨st.1.at λo e=>hk I b_ o e,st.2.at λo e=>hk d b_ o e⟩
 item:=λi s Q E hi st hQ=>by
  refine a3o st.1 st.2 (IL hi) λh' ja cm=>?_;exact hQ _ h' s.toks ⟨_,IL hi,rfl⟩ ⟨ja,st.2.at λo e=>(cm.2 d hne).trans e⟩ λb o hb e=>(cm.2 b fZ_).trans e
 done:=λs Q E st hQ=>b1d hh st.1 st.2 v_ λh' iz=>hQ h' s.toks λb o hb e=>iz b o fZ_ e
 self:=λ_ _ _ _ st hQ=>wpAny_pyIter_keyiter st.1 hQ
def c9i{es a7:Y_}{bg:Nat}(D:Oa h d es ep)(D':Oa h d a7 bg):es=a7/\ep=bg:=by
 obtain⟨o,J,_,h2⟩:=D;obtain⟨o',h3,_,h4⟩:=D';rw[J]at h3;cases h3;rw[h2]at h4;injection h4 with h5 h6
 exact⟨by simpa using congrArg Array.toList h5,h6⟩
def GO(d:xz!)(ep n:Nat):It:=⟨λi H=>∃es e x,H d=some d9_/\ae!=n/\es[i]?=some e/\Bl x e.key,λi H x H'=>H'=H/\∀es,H d=some d9_->∃e,es[i]?=some e/\Bl x e.key,λi H=>∃es,H d=some d9_/\ae!=n/\n<=i⟩
def a1r{P:z7!}{w:yO!}{H:Hp}{es:Y_}(hok:a1_)(e:H d=some d9_):Oa h d es ep:=by obtain⟨⟨h3,_⟩,_⟩:=(show Eo P w H h d d9_ from hok d _ e);exact h3
def b4q{P:z7!}{w:yO!}{K:zY!}{tg:Expr}{n:Nat}(d it:xz!):Sh P w K tg (GO d ep n) [it] it (λi h=>h.IsKeyIter it d i n ep) where
 mem:=by simp
 obj:=λi h st b hb=>by
  have e:b=it:=by simpa using hb
  subst e;show"!y"
 keep:=λi h h' st k=>st.at λo e=>k it b_ o e
 item:=by
  intro X hP hw hK hc i Y s Z H E I hf st hg;subst hP hw hK;obtain⟨es,e,x,hH,hl,hx,rx⟩:=hg;have D:=a1r I.hok hH;obtain⟨f0,f1,f2,f3,f4,f5⟩:=hf it b_;subst hl;refine a3o st D hx λh' σ sb=>?_;have I1:Inv X Y Z H {s with heap:=h'}:=I.turned (t':=s.toks) rG_ f0 f1 f3 f4 f5;obtain⟨o,eo,c,dd⟩:=id σ;exact⟨_,rfl,b8z (s:=l8!) eo c dd c! ⟨x,H,I1,rx,⟨rfl,λa7 hy=>by
   obtain⟨rfl,_⟩:=c9i D (a1r I.hok hy);exact⟨e,hx,rx⟩⟩,σ,λb hb=>(fZ!).1⟩⟩
 done:=by
  show"!0";obtain⟨es,hH,hl,hx⟩:=hg;show"!3";subst hl;exact b1d a3_ st (a1r I.hok hH) hx λh' eb=>mb!
 self:=λ_ _ _ _ _ st h=>wpAny_pyIter_keyiter st h
end
section
variable{X:Cx}{own:List Nat}{a tg:Expr}{fa:WE}
def Ph(f:WE):WI:=λρ M T=>f ρ M λd M1=>Fc hu_ λq=>T kV_ (λM=>M q.1=some pm_) M1
def b7p(h:aw!):MI X own tg a (Ph fa):=⟨by
 intro Y s Z H R I ⟨G,ρ,M,T,st,e,k⟩;refine h.run I st e λd M1 v G1 H1 u s1 r1 x1 m1 q1 I1 rx=>?_;obtain⟨⟨p,h1,ep⟩,e1,r2⟩:=cR r1;obtain⟨rfl,rfl,hM⟩:=cQ q1 e1;cases rx;obtain⟨es,J,h2,h3,h4,h5,h6⟩:=eA I1 m1 x1.sub hM;have av:ax_=ae!:=NT h2.1;refine b8r h4 h3 ⟨y!,[y!],_,GO p ep ae!,H1,rfl,mc_,b4q p _,eq!,ci_,k _ _ M1 _ G1 H1 r2 x1 m1 λi M' G' H' s2 s3 m' ck=>?_⟩
 .have e:b=y!:=by simpa using hb
  show"!g"
 .obtain⟨_,a7,g1,g2⟩:=m'.cell p _ ck;have hlen':ax_=a7.length:=NT g2.1;refine⟨dT_,λhi=>⟨a7,g1,s_,by rw[hi,IP];show ae!<=ax_;omega⟩⟩;rw[JN]at hd;obtain⟨q,hq,rfl⟩:=IA.mp hd;obtain⟨e',iz,⟨v,r1,rv⟩,_,_⟩:=fW g2.1 hq;refine⟨⟨a7,e',v,g1,s_,iz,rv⟩,gV_⟩;obtain⟨z1,z2⟩:=hy;subst z1;obtain⟨e2,ir,rx⟩:=z2 a7 g1;rw[iz]at ir;cases ir;rw[rx.inj rv];exact⟨G',Cc.refl s3,r1⟩⟩
end
section
variable{X:Cx}{Y:List (Addr×Obj)}{Z:St}{H:Hp}{s:z6!}
def gW{h2:Heap}{t':Nat}{wr:I_}(I:d!)(hf:∀b∈wr,Fx X Y H b)(kp:∀c o,c∉wr->s.heap.get? c=some o->h2.get? c=some o):Inv X Y Z H {s with heap:=h2,toks:=t'}:=by
 refine I.step (g':=s.gens) (d':=s.drawn) (t':=t') (ch:=wr) hc! oG! oG_ h7! oH_ h7_ h8! oI! h8_ hc_ I.bare
 .obtain⟨f0,f1,f2,f3,f4,f5⟩:=hf c hc;exact⟨f3,f1,f4,f5⟩
 .obtain⟨o,es,ep,ho,r⟩:=hm;exact⟨o,es,ep,kp _ o (λz=>(hf _ z).2.1 rfl) ho,r⟩
 .refine(oI_).stay oJ_ oK! λ_ _ e'=>e';have hn:=(hf d hm).1;obtain rfl|hd:=hd
  .rw[hn]at e;cases e
  .rw[hn]at hd;cases hd
def c6b{s0:z6!}{xs:m_}{us:g_}(I:Inv X Y Z H s0)(I1:d!)(hT:Ae!<=T)(eT:s.heap.IsTuple T co_)(rv:hN_)(hz:i_<=sizeLine):Inv X Y Z (upd H T bw_) s:=by
 have sw:H T=none:=I.hok.fresh hT;have ne:∀c o,H c=some o->c≠T:=λc o e=>cC e sw;refine Inv.step (g':=s.gens) (d':=s.drawn) (t':=s.toks) (h':=s.heap) (ch:=[T]) I1 hc! xU! xU_ xV! xV_
  (xW_) xX! xX_ nv! hc_ I1.bare
 .have e:c=T:=by simpa using hc
  subst e;obtain⟨_,g1,_,g3,g4,g5⟩:=I.fpOk hT sw;exact⟨g3,g1,g4,g5⟩
 .rw[nv_];exact n
 .by_cases hb:c=T
  .show"!s";exact⟨hz,us,rv,eT⟩
  .rw[aY hb]at e;exact(xZ_).stay nw! x0! λd xs q=>by rw[oL_];exact q
end
def GN(x:Str):It:=⟨xa_,λi H v H'=>∃T c,v=.ref T/\H T=none/\x.cps[i]?=some c/\H'=upd H T (.tup [V_,eK_]),xc!⟩
def a6b{K:zY!}{jn:bk_}{n1:Nat}{tp:Pos}{x:Str}{St':dx_}(qi:hC!)(hd:xc_)
  (D:∀A':Around,ov!=none->Draws P w A' it [it] x.cps.size Af! St'):
  Sh P w K fe! (GN x) bw! e (λi h=>i<=fa_/\Ag!/\St' i h) where
 mem:=by simp
 obj:=λi h st b hb=>by
  simp only[HV,JJ,LH]at hb;obtain⟨_,⟨old,s1⟩,s2⟩:=st;obtain rfl|rfl:=hb
  .exact⟨_,s1,gK!⟩
  .exact hd i h s2
 keep:=λi h h' st k=>by
  have W:=WalksT.enumerateD (A:=callerA) (D callerA.in1 rfl) e qi pN! b_;exact⟨st.1,W.frame i h h' st.2 λb hb o q=>k b fZ_ o q⟩
 item:=by
  intro X hP hw hK hc i Y s Z H E I hf st hg;subst hP hw hK;have hh:=I.ok.hd hc;have W:=WalksT.enumerateD (A:=X.A) Ah! e qi pN! b_;refine W.item i s _ _ hg st.2 λT wj h' tk hP hT XD hm kp=>⟨_,rfl,W.go jn n1 tp i T _ _ _ hm λh2 bj tj=>?_⟩;obtain⟨t,y,⟨c,u,gh,rfl⟩,rfl⟩:=hP;have XE:∀b∈bw!,Fx X Y H b:=hf;have I1:Inv X Y Z H {s with heap:=h2,toks:=tk}:=gW I XE λc o hc eo=>tj c o hc (kp c o hc eo);have TY:T∉bw!:=W.apart i T _ hm;have eT:h2.IsTuple T #[.int i t,.str at! u]:=by
   obtain⟨o,eo,r⟩:=XD;exact⟨o,tj T o TY eo,r⟩
  have I2:=c6b (us:=[.int i t,.str at! u]) (xs:=[V_,eK_]) I I1 hT eT (.cons eQ_ (.cons ⟨u,rfl⟩ .nil)) (by show 2<=sizeLine;rw[KH];decide);refine⟨.ref T,_,I2,rfl,⟨T,c,rfl,I.hok.fresh hT,gh,rfl⟩,⟨hg,bj⟩,ci_⟩;rw[aY (λz:b=T=>TY (by rw[<-z];exact hb))];exact(fZ!).1
 done:=by
  show"!0";have hh:=I.ok.hd hc;have W:=WalksT.enumerateD (A:=X.A) Ah! e qi pN! b_;show"#?";exact W.done s _ _ st.2 λh' tk kp=>⟨rfl,gW I hf kp⟩
 self:=λA i s Q E st h=>by
  obtain⟨_,⟨old,s1⟩,_⟩:=st;exact wpAny_pyIter_enum s1 h
section
variable{X:Cx}{own:List Nat}{a:Expr}{jn:List Expr}{n1:Nat}{tp p pos:Pos}{fa:Ad->Option D}
def Sb(f:e_):Ad->Option aI_:=λρ=>(ah_).bind λd=>match d with|.str x=>some (x.cps.toList.zipIdx.map λq=>.tup Ai_)|_=>none
def b9w(hg:Aj!)(hm:Al!)(h:U!)(hs:Ak!:=by rfl)(ax:Ak_:=by rfl):
  DI X own fe! (.Call (.Name "enumerate" p) [a] [] pos) (Sb fa):=⟨by
 intro Y s Z H R I ⟨G,ρ,ds,er,e,k⟩;obtain⟨d,e1,e2⟩:=HN.mp e;cases d<;>first|(cases e2;done)|skip
 rename_i x;cases e2;refine Call_ (iP I hg hm boot_enumerate (KO (cX (dA h.ok fP hs pos Y s Z H (λvs H1=>∃v G1,vs=[v]/\Cc G H G1 H1/\Aq X.K G1 by_ v) I ⟨G,ρ,_,er,e1,λv G1 H1 x1 r1=>⟨v,G1,rfl,x1,r1⟩⟩) λus s1 ⟨vs,H1,I1,r1,v,G1,q1,x1,rr⟩=>?_) hs ax));subst q1;cases bW rr;obtain⟨u,rfl,t,rfl⟩:=mT r1;refine call_enumerate_str λh' he ar hsz hk=>?_;refine wpAny_pyIter_enum he ?_;have I2:Inv X Y Z H1 {s1 with heap:=h',toks:=s1.toks}:=I1.kept (t':=s1.toks) hk;have jo:∀b∈[y!+1,y!],y!<=b:=λb hb=>by
  simp only[HV,JJ,LH]at hb;obtain rfl|rfl:=hb<;>omega
 have fin:∀{St':dx_},St' 0 h'->(∀i h,St' i h->∃o,h.get? y!=some o/\∀v,o.data≠.cell v)->(∀A':Around,ov!=none->Draws X.prog X.w A' s1.heap.objs.size [y!] x.cps.size Af! St')->
   DN X Y Z fe! R (.ref (y!+1)) {s1 with heap:=h'}:=λ{St'} h0 hd D=>by
  refine⟨_,_,_,GN x,H1,rfl,I2,a6b An! hd D,⟨JK _,⟨_,he⟩,h0⟩,λb hb=>I1.fpOk pP! Ao!,k _ G1 H1 x1 ?_⟩;intro i G' H' g1 g2;refine⟨dT_,λhi=>by rw[IP,RP,KG]at hi;exact OP hi.symm⟩;rw[JN,List.getElem?_zipIdx]at hd;obtain⟨q,hq,rfl⟩:=IA.mp hd;obtain⟨c,hc,rfl⟩:=IA.mp hq;rw[NY]at hc;refine xd!;obtain⟨T,c',rfl,hT,b7,rfl⟩:=hy;rw[hc]at b7;cases b7;refine⟨_,Cc.laid g2 hT,fH (g2.free hT) (Al.cons ?_ (Al.cons Aq.str Al.nil))⟩;rw[SF];exact Aq.int
 cases ha:x.cps.all (·<128)
 .have ja:h'.IsStrIter s1.heap.objs.size "str_iterator" x t 0:=by simpa[strIterType,ha]using ar
  exact fin (St':=λi h=>h.IsStrIter s1.heap.objs.size "str_iterator" x t i) ja Ap_ λA' hh=>Draws.strWide hh _ x t
 .have ja:h'.IsStrIter s1.heap.objs.size "str_ascii_iterator" x t 0:=by simpa[strIterType,ha]using ar
  exact fin (St':=λi h=>h.IsStrIter s1.heap.objs.size "str_ascii_iterator" x t i) ja Ap_ λA' hh=>Draws.strAscii hh _ x t⟩
def Rr(a:Int)(n:Nat):List D:=(n6_).map λi=>.int (a+(i:Nat))
def Sa(f g:e_):Ad->Option aI_:=λρ=>(ah_).bind λx=>(g ρ).bind λy=>match x,y with|.int i,.int j=>if -1000<=i/\i<=100000/\-1000<=j/\j<=100000 then some (Rr i (j - i).toNat)else none|_,_=>none
end
end DL
namespace HT
open PySem PySem.Spec PyProof.Rows
def b5h(A:x8!)(s:z6!)(a:Int)(t:Tok)(c:Int)(u:Tok)(prog:z7!)(w:yO!)(E:l_)(Q:l_)(h:Q (.bool (decide (c<a))) s):
  wpAny o_ A (richCompare .Gt gl! mX!) Q E s:=
 (PyProof.Rows.gt_int h:wpAny o_ A (compareOp .Gt gl! mX!) Q E s)
section
open PySem.SeqAt
open PySem.AutoSeq1 (wpAny_loadPart')
open PySem.MeetsSeq PySem.MeetsSeq2 PySem.MeetsSeq3
def vT(l b:xz!)(items jr:I!)(n n2:Nat)(dd ky:aG_)(sl f7:bB_)(ns ms:r!)(hi:Ar!)(hj:Ar_):
  Meets (Builtin.«tuple.__gt__» ⟨[.ref l,.ref b],[]⟩)
   (λ_ R s=>s.heap.get? l=some {cls:=.type "tuple",dict:=dd,data:=.seq items n,slots:=sl}/\s.heap.get? b=some {cls:=.type "tuple",dict:=ky,data:=.seq jr n2,slots:=f7}/\
    R (.ok (.ret pQ_)) s):=
 .of_wp λprog w A R s h=>by
  obtain⟨hp,g,d,tk,os⟩:=s;obtain⟨hl,hb,h⟩:=h;have f2:=AutoSeq1.sub_tuple_tuple;have z1:c0!=cS!:=by rw[<-hi.length];simp
  have z2:jr.size=ea_:=by rw[<-hj.length];simp
  wp_walk using RK hl,RK hb,RC _ (λrest b s'=>b.1=none/\s'=fd!/\∃(vs ws:g_) (qj qk:r!),rest=vs.zip ws/\
   IntsAre vs qj/\IntsAre ws qk/\qj.length+jr.size=qk.length+c0!/\R (.ok (.ret (.bool (lexLt qk qj)))) fd!) _
  case turn=>
   rintro⟨y,x⟩ rest b s' ⟨gc,rfl,vs,ws,qj,qk,hz,xr,vc,av,hR⟩;cases xr with
   |nil=>rw[List.zip_nil_left]at hz;cases hz
   |cons a t XG=>
    cases vc with
    |nil=>rw[List.zip_nil_right]at hz;cases hz
    |cons c u XH=>
     rw[PY]at hz;injection hz with XI XJ
     injection XI with hy hx
     subst hy hx;rw[lexLt_cons]at hR;simp only[IH]at av;obtain⟨e,he,TZ⟩:=b9j A.in1 fd! a t c u;refine HM (he prog w _ _ ?_);cases e with
     |true=>
      rw[IB (TZ.mp rfl).symm]at hR
      wp_walk
      exact⟨rfl,rfl,_,_,_,_,XJ,XG,XH,s_,hR⟩
     |false=>
      rw[IF (λq=>absurd (TZ.mpr q.symm) IV)]at hR;have XO:=b5h A.in1 fd! a t c u prog w
      wp_walk using XO
      exact⟨_,rfl,by simpa using hR⟩
  case fin=>
   rintro⟨b1,b2⟩ s' ⟨gc,rfl,vs,ws,qj,qk,hz,xr,vc,av,hR⟩;simp only at gc;subst gc;have hv:lexLt qk qj=decide (jr.size<c0!):=by
    cases xr with
    |nil=>
     cases vc with
     |nil=>
      simp only[MN]at av;rw[lexLt_nil_nil];exact(IG a!).symm
     |cons c u hw=>
      simp only[MN,IH]at av;rw[uS];exact(IG a!).symm
    |cons a t hv=>
     cases vc with
     |nil=>
      simp only[MN,IH]at av;rw[uR];exact(IY a!).symm
     |cons c u hw=>
      rw[PY]at hz;cases hz
   rw[hv]at hR
   wp_walk
   exact⟨_,rfl,by simpa[Builtin.Tuple.tupleCompareSizes]using hR⟩
  case h=>
   exact⟨rfl,rfl,items.toList,jr.toList,ns,ms,rfl,hi,hj,s_,h⟩
end
section
variable{prog:z7!}{w:yO!}{A:x8!}{E:Value->Shared->Prop}{s:z6!}
def gt_tupInts{b:xz!}{items jr:I!}{ns ms:r!}{Q:l_}(hl:IsTup s.heap l items)(hb:IsTup s.heap b jr)(hi:Ar!)(hj:Ar_)
  (hu:an!)(h:Q pQ_ s):wpAny o_ A (compareOp .Gt (.ref l) dJ!) Q E s:=by
 obtain⟨⟨cls,dd,data,sl⟩,ho,hc,n,hd⟩:=id hl;obtain⟨⟨zr,ky,data2,f7⟩,jh,ii,n2,ji⟩:=id hb;simp only at hc hd ii ji;subst hc hd ii ji;exact richCompare_meets_room (op:=.Gt) iX! iY! PySem.F.slot_tuple_gt PySem.F.entry_tuple_gt (PySem.F.args_tuple_gt_2 _ _) (vT l b items jr n n2 dd ky sl f7 ns ms hi hj)
  ⟨ho,jh,show Value.bool (lexLt ms ns)≠Value.notImplemented/\Q pQ_ s from⟨(λx=>nomatch x),h⟩⟩ hu
end
end HT
namespace DL
open PySem PySem.Spec PyProof.Rows L2
section
variable{X:Cx}{own bc:List Nat}{a b e tg o:Expr}{es:List Expr}{p pos:Pos}{fa fb f:Ad->Option D}
def BS(K:zY!):R2:=λx y H Q=>∃a b ns ms,x=.ref a/\y=.ref b/\Fy K H a bY_/\Fy K H b (ms.map V.int)/\Q (.bl pR_) H
def c7g(hu:X.A.units<cLine):Gv X se! (BS X.K):=by intro Y s Z H x y v u Q I rx ry h;obtain⟨a,b,ns,ms,rfl,rfl,ha,hb,q⟩:=h;cases rx;cases ry;obtain⟨its,r1,p1,_⟩:=I.tuple ha;obtain⟨gj,r2,p2,_⟩:=I.tuple hb;have i1:IntsAre its.toArray.toList ns:=vE r1;have i2:IntsAre gj.toArray.toList ms:=vE r2;exact HT.gt_tupInts p1 p2 i1 i2 hu ⟨.bl pR_,H,I,rfl,q⟩
def Mp:List D->Option (List Int)
 |[]=>some []
 |.int i::r=>(Mp r).map (i::·)
 |_=>none
def jM{K:zY!}{G:Hp}:∀{ds:b!} {vs:m_} {ns:r!},Al K G ds vs->Mp ds=some ns->vs=ns.map V.int
 |[],vs,ns,r,e=>by cases cG r;cases e;rfl
 |d::ds,vs,ns,r,e=>by
  obtain⟨v,t,rfl,r1,r2⟩:=bF r;cases d<;>simp only[Mp]at e<;>first|(cases e;done)|skip
  obtain⟨l,e1,rfl⟩:=IA.mp e;rw[jM r2 e1];cases aZ r1;rfl
def AS:D->D->Option D
 |.tup xs,.tup ys=>(Mp xs).bind λns=>(Mp ys).map λms=>.bl pR_
 |_,_=>none
def c7n{K:zY!}:Ic K (BS K) AS:=by
 show"!1";unfold AS at e;show"!8"
 .obtain⟨ns,e1,e⟩:=HN.mp e;obtain⟨ms,e2,rfl⟩:=IA.mp e;show"!O";obtain⟨b,ws,rfl,qb,rb⟩:=bN ry;rw[jM ra e1]at qa;rw[jM rb e2]at qb;exact⟨a,b,ns,ms,rfl,rfl,jD!,nY!,dT!⟩
 .cases e
def b3y(hg:iu_)(hm:iv!)(ha:U!)(hb:ct_)(hs:rV!:=by rfl)(bn:rW!:=by rfl)
  (df:starEach (a::[b]) X.env=dy_::starEach [b] X.env:=by rfl)(jm:starEach (b::[]) X.env=iw!::starEach [] X.env:=by rfl):DI X own tg rW_ (Sa fa fb):=
 a5c (b2l hg hm (dA ha.ok (dA hb.ok fP jm) df) hs bn) λZ G H R ρ ds er e k=>by
  obtain⟨x,e1,e3⟩:=HN.mp e;obtain⟨y,e2,e4⟩:=HN.mp e3;clear e e3;split at e4
  .rename_i i j;split at e4
   .rename_i h;cases e4;refine x5!;cases aZ r1;cases aZ r2;refine⟨i,j,rfl,s_,k _ G2 H2 c9! ?_⟩;intro n G' H' g1 g2;unfold Rr;refine ww!;rw[JN]at hd;obtain⟨m,hj,rfl⟩:=IA.mp hd;obtain⟨hl,he⟩:=IJ.mp hj;rw[PZ]at he;subst he;rw[NJ]at hl;refine⟨hl,gV_⟩;obtain⟨z1,z2⟩:=hy;subst z1 z2;exact⟨G',Cc.refl g2,Aq.int⟩
   .cases e4
  .cases e4
def Xr:V->List V->Hp->VK->Prop:=λx vs H Q=>∃l xs k y,x=.ref l/\vs=[.int (k:Nat),y]/\H l=some Q_/\k<=i_/\i_<sizeLine/\Q .non (upd H l (.lst (xs.take k++y::xs.drop k)))
def b3c:FH X "list.insert" Xr:=by
 intro Y s Z H x vs v us Q I rx rv h;obtain⟨l,xs,k,y,rfl,rfl,hH,hk,hz,q⟩:=h;cases rx;obtain⟨u,u2,rfl,⟨t,rfl⟩,ru⟩:=wS rv;obtain⟨z,its,n,r,hl,e⟩:=I.lstM hH;have wf:¬(!Builtin.List.listFitsIndex (k:Int))=true:=by
  rw[fitsIndex_both (Int.le_trans c! (Int.natCast_nonneg k)) (Int.lt_of_le_of_lt (Int.ofNat_le.mpr (JM hk (NV hz))) wi!)];exact IV
 have hsz:bC!<=sizeLine:=by rw[HY];omega
 refine RS (S:=?S) PySem.F.slot_list_insert dN! PySem.F.entry_list_insert (PySem.F.args_list_insert_3 _ _ _) ?g ?h
 case g=>exact @PySem.AutoSeq1.list_insert_list_int_val_1 l its.toArray n (k:Int) t u2 wf hsz
 refine je_;refine⟨.non,_,I.lset (its':=its.take k++u2::its.drop k) hH e ?_ ((r.take k).append (.cons ru (r.drop k))) ?_,rfl,q⟩
 .have J:¬cb_<0:=by omega
  have h2:min (cb_).toNat bC!=k:=by simp;omega
  simp only[J,JT,h2];simp[List.extract_eq_drop_take];rw[Au_]
 .simp only[JA,IH,NQ,SG];omega
def Wi(i:Nat)(fk f:e_):Ad->Option Fl:=λρ=>(fk ρ).bind λx=>(ah_).bind λd=>match x,ρ[i]? with
 |.int j,some (some (.lst ds))=>if 0<=j/\j.toNat<=f_/\f_<big then some (.nx (ρ.set i (some (.lst (ds.take j.toNat++d::ds.drop j.toNat)))))else none
 |_,_=>none
def b3x{i:Nat}{x:Str}{ay ai:Pos}{fk:e_}(bt:dQ!:=by decide)(hk:DE X own ek fk)(h:c8_)(hN:aa_:=by rfl)(hv:cf_:=by first|exact Or.inl rfl|exact Or.inr a_|exact Or.inr bd_)
  (hd:y_:=by decide)(bv:cg!:=by decide)
  (hst:starEach (ek::[e]) X.env=(false,eval ek X.env)::starEach [e] X.env:=by rfl)(XQ:gZ!:=by rfl)(ik:((backTo ai (starEach [ek,e] X.env)).all c3_&&(c4!).all c4_
   &&decide ([ek,e].length+(dM_).length+eO!<30))=true:=by rfl) (io:eO_:=by rfl)
  (ij:attributeBase bf_ "insert" X.env jS_=eval bf_ X.env:=by rfl) (ip:(jf_).any c_=false:=by rfl) (fh:swapsWith Av! none pos.line X.env=pure false:=by rfl):
  DS X own own (.Expr Av! pos) (Wi i fk f):=⟨λG0 F0 Y s Z H E I ⟨G,ρ,r,er,e',k⟩=>by
  refine oE (a3e OU PySem.F.slot_list_insert PySem.F.type_list_insert b3c jx! (dA hk.ok (dA h.ok fP XQ) hst) ij ik io hst ip) fh Y s Z H E I ?_;obtain⟨z,e1,e4⟩:=HN.mp e';obtain⟨d,e3,e2⟩:=HN.mp e4;clear e' e4;obtain⟨p,ds,vs,J,h2,h3,h4,h5⟩:=er.or.own_ i bt;rw[J]at e2;cases z<;>first|(cases e2;done)|skip
  rename_i j;simp only at e2;split at e2
  .rename_i hj;cases e2;refine⟨e4_,h2,oh_,G,ρ,_,er.or,e1,λv G' H' x r=>⟨G',ρ,d,er.or.grow x,e3,λv2 G2 H2 x2 r2=>?_⟩⟩;cases aZ r;have hl:=aI h5;refine⟨p,vs,j.toNat,v2,rfl,?_,wP_,s_,by rw[<-hl];exact IW hj.2.2 (cV v_),?_⟩
   .rw[Int.toNat_of_nonneg hj.1]
   .have h6:=(oi!).mono x2.g;exact k G2 Z _ (((gX_).grow x2).upd bt h2 (cU (qC _ h6) (Al.cons r2 (qD _ h6))))
  .cases e2⟩
end
end DL
namespace DL
open PySem PySem.Spec PyProof.Rows L2
section
variable{X:Cx}{own bc:List Nat}{a b e tg o:Expr}{es:List Expr}{p p2 pos:Pos}{fa fb fo f:WE}{fs:WA}
def Xm(i:Nat)(f:WE):WS:=λρ M R=>f ρ M λd M1=>Fc (Nq M1 d) λq=>match ρ[i]? with
 |some (some (.lst ds))=>f_+pn!<=big/\R (.nx (ρ.set i (some (.lst (ds++q.2))))) M1
 |_=>False
def b3e{i:Nat}{x:Str}{ay ai:Pos}(bt:dQ!:=by decide)(h:bu_)(hN:aa_:=by rfl)(hv:cf_:=by first|exact Or.inl rfl|exact Or.inr a_|exact Or.inr bd_)
  (hd:y_:=by decide)(bv:cg!:=by decide)
  (hst:gZ!:=by rfl)(ik:((jf_).all c3_&&(c4!).all c4_
   &&decide wJ_)=true:=by rfl) (io:eO_:=by rfl)
  (ij:attributeBase bf_ "extend" X.env jS_=eval bf_ X.env:=by rfl) (ip:jT!:=by rfl) (fh:swapsWith Av_ none pos.line X.env=pure false:=by rfl):
  MS X own own (.Expr Av_ pos) (Xm i f):=
 oS (oE (a3e OU PySem.F.slot_list_extend PySem.F.type_list_extend b3d jx! wK_ ij ik io hst ip) fh) λM0 G0 F0 E Z G H ρ M R sr e' k1 k2=>by
  obtain⟨p,ds,vs,J,h2,h3,h4,h5⟩:=sr.st.or.own_ i bt;refine⟨e4_,h2,oh_,G,ρ,M,_,sr.st,e',zM_⟩;obtain⟨⟨c,zs⟩,e1,r⟩:=cR r;obtain⟨z1,z2,z3,us,h6,h7⟩:=vQ m q e1;cases z2;rw[J]at r;have dh:=sr.grow x m;obtain⟨p',qc,gb,g1,g2,g3,g4,g5⟩:=dh.st.or.own_ i bt;rw[h2]at g2;cases g2;rw[J]at g1;cases g1;refine⟨p,c,gb,us,rfl,rfl,g3,h6,?_,k1 _ M' G' Z _ r.2 (dh.after (dh.sr.upd bt h2 (cU g5 h7)))⟩;have:=r.1;rw[<-aI g5,<-aI h7];exact cV this
def Uq(fs:WA)(fb:WE):WE:=λρ M R=>fs ρ M λds M1=>f_<=1000/\fb ρ M1 λy M2=>match y with
 |.int k=>Aw!/\∀p,M2 p=none->R z! (mup M2 p Aw_)
 |_=>False
def a4x{G H:Hp}{p:xz!}{o:HO}(s:E!)(hp:cq_):Cc G H G eW_:=⟨eX!,iH hp,s.trans (iH hp),db_⟩
def tU{K:zY!}{G:Hp}(r:jQ!):∀k:Nat,Al K G (List.replicate k ds).flatten (List.replicate k vs).flatten
 |0=>Al.nil
 |k+1=>by
  rw[ML,ML,OB,OB];exact cU r (tU r k)
def c2x(ha:hm!)(hb:bN!):ME X own Ax! (Uq fs fb):=
 eX Ax_ λZ G H Q ρ M R st e k=>⟨G,ρ,M,_,st,e,λds M1 vs G1 H1 r1 x1 m1 q1=>⟨by rw[<-aI q1];exact eY r1.1,λp hp=>by
  have xj:Cc G1 H1 G1 Ay!:=a4x x1.sub hp;have hM:M1 p=none:=m1.nocell hp;refine Az!;cases y<;>first|exact r2.elim|skip
  rename_i n;cases aZ q2;obtain⟨⟨hn,g6,hl⟩,r2⟩:=r2;have xt:H2 p=some cr!:=x2.keep p _ bQ hM;refine Az_;have xu:=(AA!).trans x2 pT_;exact k _ _ _ G2 _ (r2 c (m2.nocell hc)) (xu.trans (.laid x2.sub hc) m2) (m2.laid hc x2.sub ⟨_,bQ,tU bv! _⟩) Aq.fn⟩⟩
end
nonrec def rk(r:fx!)(xs:cc!)(i:Nat):Int:=(xs[i]?.map r).getD 0
def b5e{r:fx!}{xs:cc!}{c d:Nat}(hs:c<xs.size)(hd:d<=c)(k:Nat):rk r (bubble xs c d) k=if k=c - d then rk r xs c else if c - d<k/\k<=c then rk r xs (k - 1)else rk r xs k:=by
 unfold rk;rw[getElem?_bubble hs d hd k];split
 .rfl
 .split<;>rfl
def a6p{r:fx!}{xs:cc!}{i j:Nat}(hj:j<=xs.size)(k:Nat):rk r AD! k=if i<=k/\k<j then rk r xs (i+j - 1 - k)else rk r xs k:=by unfold rk;rw[getElem?_mirror_all hj k];split<;>rfl
def nY{r:fx!}{xs:cc!}{i j:Nat}(hj:j<=xs.size)(he:∀k,i<=k->k<j->rk r xs k=rk r xs eb_)(k:Nat):rk r AD! k=rk r xs k:=by
 rw[a6p hj];by_cases h:i<=k/\k<j
 .rw[IB h,he _ a! a!,he k h.1 h.2]
 .rw[IF h]
def Up(r:fx!)(xs:cc!)(n:Nat):Prop:=∀i j,i<=j->j<n->rk r xs i<=rk r xs j
def Dn(r:fx!)(xs:cc!)(n:Nat):Prop:=∀i j,i<=j->j<n->rk r xs j<=rk r xs i
structure SB(kd:SortKind)(a0:cc!)(st:SortSt):Prop where
 pm:(z_).Perm a0
 kn:kindOf st=kd
 fl:failedOf st=none
 pd:pendingOf st=#[]
def SB.sz{kd:SortKind}{a0:cc!}{st:SortSt}(h:cc_):(z_).size=a0.size:=h.pm.size_eq
def SB.put{kd:SortKind}{a0 xs:cc!}{st:SortSt}(h:cc_)(hp:xs.Perm z_):SB kd a0 (setArr st xs):=⟨hp.trans h.pm,h.kn,h.fl,h.pd⟩
section
variable{prog:z7!}{w:yO!}{A:x8!}{E:Value->Shared->Prop}{s:z6!}{a0:Array Keyed}{kd:SortKind}{r:Keyed->Int}
variable (prog w A s a0 kd r)in
def Tr:Prop:=∀(x y:Keyed) (F:l_) (Q:df!),x∈hD!->y∈hD!->Q (decide (r x<r y)) s->wpAny o_ A (keyLt' kd x.1 y.1) Q F s
def b5d{st:SortSt}{i j:Nat}{Q:Option Bool->SortSt->Prop}(hl:dn!)(b:cc_)(hi:i<a0.size)(hj:j<a0.size)(h:Q (some (decide (rk r z_ i<rk r z_ j))) st):wpS o_ A E s (ltAt' i j) Q st:=by
 have at_:∀k,k<a0.size->∃p,z_[k]?=some p/\p∈hD!/\rk r z_ k=r p:=λk hk=>by
  have cz:k<(z_).size:=by rw[b.sz];exact hk
  refine⟨z_[k],AG!,(Array.perm_iff_toList_perm.mp b.pm).mem_iff.mp b_,?_⟩;unfold rk;rw[AG!];rfl
 obtain⟨x,ex,mx,rx⟩:=at_ i hi;obtain⟨y,ey,my,ry⟩:=at_ j hj;rw[rx,ry]at h;rw[ltAt'_eq];refine KR fx_;show wpS o_ A E s (elem' z_ i>>=λx=>elem' z_ j>>=λy=>lt' x y) Q st;rw[elem'_eq,elem'_eq,ex,ey];refine KR (MU (KR (MU ?_)));rw[lt'_eq];refine KR fx_;rw[b.kn];exact KR (wpS_lift (ON (hl x y _ _ mx my ⟨rfl,MU h⟩)))
def c4z{st:SortSt}{a n:Nat}{Q:AscSt->SortSt->Prop}(hl:dn!)(hn:fy!)(ha:1<=a)(xv:a<=n)(b:cc_)(hu:Up r z_ a)
  (h:∀m,a<=m->m<=n->Up r z_ m->(m=n\/rk r z_ m<rk r z_ hD_)->Q (none,m) st):wpS o_ A E s (ascLoop a n) Q st:=by
 unfold ascLoop;refine RF (I:=λx c σ=>σ=st/\c=(none,x)/\Up r z_ x) ?_ ?_ ⟨rfl,rfl,hu⟩
 .rintro x c σ J h2 ⟨rfl,rfl,u⟩;refine KR (b5d hl b (IW h2 hn) a! ?_);by_cases q:rk r x_ x<rk r x_ hE!
  .rw[IY q];exact MU (h x J (NV h2) u (.inr q))
  .rw[IG q];refine MU ⟨rfl,rfl,AI_⟩;obtain h5|h5:=MH j x
   .exact u i j h3 h5
   .have:j=x:=by omega
    subst this;obtain h6|h6:=MH i j
    .have:=u i eb_ a! a!;omega
    .have:i=j:=by omega
     rw[this];exact NE _
 .rintro c σ ⟨rfl,rfl,u⟩;rw[show max a n=n by omega]at u ⊢;exact h n xv v_ u aj_
def b5a{st:SortSt}{m n:Nat}{Q:pV!}(hl:dn!)(hn:fy!)(J:1<=m)(hm:m<=n)(b:cc_)(hd:Dn r z_ m)
  (h:pV_):wpS o_ A E s (tail3 m n) Q st:=by
 unfold tail3;have b':SB kd a0 (setArr st (mirror z_ 0 m ((m - 0) / 2))):=b.put kZ!;have hz:m<=(z_).size:=by rw[b.sz];omega
 refine KR (wpS_reverse (KR (c4z hl hn J hm b' (λi j h3 h4=>?_) λk h3 h4 u _=>MU (h k _ b' a! h4 u))));rw[a6p hz,a6p hz,ap_,ap_];exact hd _ _ a! a!
def c6i{st:SortSt}{m n:Nat}{Q:DescSt->SortSt->Prop}(hl:dn!)(hn:fy!)(J:1<=m)(hm:m<=n)(b:cc_)(hd:Dn r z_ m)
  (h:∀k q σ,SB kd a0 σ->m<=k->k<=n->Dn r x_ k->q+1<=k->(∀i,k - (q+1)<=i->i<k->rk r x_ i=rk r x_ (k - 1))->Q (none,k,q) σ):wpS o_ A E s (descLoop m n) Q st:=by
 unfold descLoop;refine RF (I:=λx c σ=>∃q,c=(none,x,q)/\SB kd a0 σ/\Dn r x_ x/\q+1<=x/\∀i,x - (q+1)<=i->i<x->rk r x_ i=rk r x_ hE!) ?_ ?_ ⟨0,rfl,b,hd,s_,λi h2 h3=>by rw[show i=m - 1 by omega]⟩
 .rintro x c σ h2 h3 ⟨q,rfl,b',d,hq,he⟩;have hz:x<=(x_).size:=by rw[b'.sz];omega
  refine KR (b5d hl b' (IW h3 hn) AK_ ?_);by_cases p:rk r x_ x<rk r x_ hE!
  .rw[IY p];have pe:∀xs:Array Keyed,(∀k,rk r xs k=rk r x_ k)->Dn r xs (x+1):=λxs hk i j h4 h5=>by
    rw[hk,hk];obtain h6|h6:=MH j x
    .exact d i j h4 h6
    .have:j=x:=by omega
     subst this;obtain h7|h7:=MH i j
     .have:=d i eb_ a! a!;omega
     .show"#4"
   by_cases tu:q>0
   .simp only[KA,tu];exact KR (wpS_reverse (MU ⟨0,rfl,b'.put kZ!,pe _ (nY hz he),s_,AL!⟩))
   .simp only[KA,tu,JT];exact MU ⟨0,rfl,b',pe _ λ_=>rfl,s_,AL!⟩
  .rw[IG p];show"!}";refine KR (b5d hl b' AK_ (IW h3 hn) ?_);by_cases p2:rk r x_ hE!<rk r x_ x
   .rw[IY p2];exact MU (h x q σ b' h2 (NV h3) d hq he)
   .rw[IG p2];have ex:rk r x_ x=rk r x_ hE!:=by omega
    refine MU ⟨q+1,rfl,b',λi j h4 h5=>?_,s_,λi h4 h5=>?_⟩
    .obtain h6|h6:=MH j x
     .exact d i j h4 h6
     .have:j=x:=by omega
      subst this;obtain h7|h7:=MH i j
      .rw[ex];exact d i eb_ a! a!
      .show"#4"
    .rw[show x+1 - 1=x by omega];obtain h6|h6:=MH i x
     .rw[ex];exact he i a! h6
     .rw[show i=x by omega]
 .rintro c σ ⟨q,rfl,b',d,hq,he⟩;rw[show max m n=n by omega]at d hq he ⊢;exact h n q σ b' hm v_ d hq he
def b5c{st:SortSt}{m n:Nat}{Q:pV!}(hl:dn!)(hn:fy!)(hm:m+1<=n)(b:cc_)(hd:Dn r z_ (m+1))
  (h:pV_):wpS o_ A E s (descPart m n) Q st:=by
 unfold descPart;refine KR (wpS_lift (LS ⟨rfl,KR (c6i hl hn a! hm b hd λk q σ b' J h2 d hq he=>?_)⟩));by_cases tu:q>0
 .simp only[KA,tu];refine KR (wpS_reverse (b5a hl hn a! h2 (b'.put kZ!) (λi j h4 h5=>?_) h));have hz:k<=(x_).size:=by rw[b'.sz];omega
  rw[nY hz he,nY hz he];exact d i j h4 h5
 .simp only[tu,JT];exact b5a hl hn a! h2 b' d h
def c1l{st:SortSt}{n:Nat}{Q:pV!}(hl:dn!)(hn:fy!)(J:1<=n)(b:cc_)(h:pV_):
  wpS o_ A E s (countRun' 0 n) Q st:=by
 rw[countRun0_eq];refine KR (c4z hl hn (IN 1) J b (λi j h3 h4=>by rw[fy_];exact NE _) λm h3 h4 u XT=>?_);by_cases e:m=n
 .simp only[NZ,e,KA];rw[<-e];exact MU AM!
 .have au:rk r z_ m<rk r z_ hD_:=XT.resolve_left e;simp only[NZ,e,JT];by_cases hg:m>1
  .simp only[hg,KA];refine KR (b5d hl b a! a! ?_);by_cases p:rk r z_ 0<rk r z_ hD_
   .rw[IY p];exact MU AM!
   .rw[IG p];have tz:∀k,0<=k->k<m->rk r z_ k=rk r z_ hD_:=λk _ hk=>by
     have a1:=u 0 k a! hk;have a2:=u k hD_ a! a!;omega
    have hz:m<=(z_).size:=by rw[b.sz];omega
    refine KR (wpS_reverse (b5c hl hn a! (b.put kZ!) AN! h));rw[nY hz tz,nY hz tz];obtain h7|h7:=MH j m
    .rw[tz i a! a!,tz j a! h7];exact NE _
    .have:j=m:=by omega
     subst this;obtain h8|h8:=MH i j
     .rw[tz i a! h8];omega
     .show"#4"
  .simp only[hg,JT];have:m=1:=by omega
   subst this;refine b5c hl hn a! b AN! h;obtain h8|h8:=MH i j
   .rw[show i=0 by omega,show j=1 by omega];exact Int.le_of_lt au
   .show"#4"
def c7s{lo hi k x n:Nat}(h:¬lo>=hi)(g2:hi<=k)(g3:hi - lo<=k - x)(hk:k<n):lo<=cH! / 2/\cH! / 2<hi/\cH! / 2<k/\cH! / 2<n/\cH! / 2 - lo<=k - (x+1)/\hi - (cH! / 2+1)<=k - (x+1):=by omega
def d0o{st:SortSt}{n k0:Nat}{Q:Bool->SortSt->Prop}(hl:dn!)(hn:fy!)(hk:k0<=n)(b:cc_)(hu:Up r z_ k0)(h:∀σ,SB kd a0 σ->Up r x_ n->Q true σ):
  wpS o_ A E s (binarySort' 0 n k0) Q st:=by
 rw[binarySort'_eq];simp only[SF];refine KR (wpS_mono (RF (I:=λk c σ=>c=fj!/\SB kd a0 σ/\Up r x_ (min k n)) (Q:=λc σ=>c=fj!/\SB kd a0 σ/\Up r x_ n) ?_ ?_ ⟨rfl,b,AI_⟩) ?_)
 .rintro k c σ h2 h3 ⟨rfl,b',u⟩;rw[show min k n=k by omega]at u;have j5:k<a0.size:=by omega
  refine KR (wpS_mono (RF (I:=λx c bj=>bj=σ/\∃lo hi,c=(none,lo,hi)/\lo<=hi/\hi<=k/\hi - lo<=k - x/\AO!/\∀i,hi<=i->i<k->rk r x_ k<rk r x_ i)
   (Q:=λc bj=>bj=σ/\∃lo hi,c=(none,lo,hi)/\lo<=k/\AO!/\∀i,lo<=i->i<k->rk r x_ k<rk r x_ i) ?_ ?_ ⟨rfl,0,k,rfl,s_,s_,s_,λi hi=>by omega,λi h4 h5=>by omega⟩) ?_)
  .rintro x c bj h4 h5 ⟨rfl,lo,hi,rfl,g1,g2,g3,g4,g5⟩;dsimp only;by_cases xw:lo>=hi
   .rw[IB xw];have:lo=hi:=by omega
    subst this;exact MU AO_
   .rw[IF xw];obtain⟨m1,m2,m3,m4,m5,m6⟩:=c7s xw g2 g3 j5;refine KR (b5d hl b' j5 m4 ?_);by_cases p:rk r ed! k<rk r ed! pY!
    .rw[IY p];exact MU ⟨rfl,lo,cH! / 2,rfl,m1,NV m3,m5,g4,λi h6 h7=>Int.lt_of_lt_of_le p (u pY! i h6 h7)⟩
    .rw[IG p];exact MU ⟨rfl,cH! / 2+1,hi,rfl,m2,g2,m6,λi h6=>Int.le_trans (u i pY! (Nat.le_of_lt_succ h6) m3) (Int.not_lt.mp p),g5⟩
  .rintro c bj ⟨rfl,lo,hi,rfl,g1,g2,g3,g4,g5⟩;have:lo=hi:=by omega
   subst this;exact AO_
  .rintro c bj ⟨rfl,lo,hi,rfl,g1,g4,g5⟩;rw[moveDown'_eq];refine KR (wpS_modify (MU ⟨rfl,b'.put (bubble_perm _ _ _),λi j h6 h7=>?_⟩));rw[show min M_ n=k+1 by omega]at h7;have nj:k<(ed!).size:=by rw[b'.sz];exact j5
   rw[b5e nj a!,b5e nj a!,show k - (k - lo)=lo by omega];have n1:∀m,m<lo->rk r ed! m<=rk r ed! k:=g4;have n2:∀m,lo<=m->m<k->rk r ed! k<rk r ed! m:=g5;by_cases ei:i=lo
   .rw[IB ei];by_cases ej:j=lo
    .rw[IB ej];exact NE _
    .rw[IF ej];by_cases fj:lo<j/\j<=k
     .rw[IB fj];exact Int.le_of_lt (n2 eb_ a! a!)
     .omega
   .rw[IF ei];by_cases fi:lo<i/\i<=k
    .rw[IB fi,IF a!,ap_];exact u (i - 1) eb_ a! a!
    .rw[IF fi];by_cases ej:j=lo
     .rw[IB ej];exact n1 i a!
     .rw[IF ej];by_cases fj:lo<j/\j<=k
      .rw[IB fj];exact u i eb_ a! a!
      .rw[IF fj];exact u i j h6 a!
 .rintro c σ ⟨e,b',u⟩;rw[show min (max (max k0 1) n) n=n by omega]at u;exact⟨e,b',u⟩
 .by_cases h0:k0=0
  .show"#4"
  .exact hu i j h3 a!
 .rintro c σ ⟨rfl,b',u⟩;exact MU (h σ b' u)
def b5b{st:SortSt}{Q:Unit->SortSt->Prop}(hl:dn!)(b:cc_)(h2:2<=a0.size)(nv:a0.size<64)
  (h:∀σ,(x_).Perm a0->failedOf σ=none->Up r x_ a0.size->Q () σ):wpS o_ A E s sortRuns' Q st:=by
 rw[sortRuns'_eq];refine KR fx_;have XU:minRun' a0.size a0.size 0=a0.size:=by
  have:∀f,minRun' (f+1) a0.size 0=a0.size:=λf=>by rw[minRun'_succ,IB nv];rfl
  have q:=this (a0.size - 1);rwa[show a0.size - 1+1=a0.size by omega]at q
 dsimp only;simp only[b.sz,XU];have fin:∀{σ:SortSt},SB kd a0 σ->Up r x_ a0.size->(arrOf k2!).Perm a0/\failedOf k2!=none/\pendingOf k2!=#[k1_]/\Up r (arrOf k2!) a0.size:=
  λ{σ} b' u=>⟨b'.pm,b'.fl,by show(AS!).push _=_;rw[b'.pd];rfl,u⟩
 refine KR (wpS_mono (RF (I:=λx c σ=>(x=0/\c=(none,0)/\SB kd a0 σ)\/(1<=x/\c=AS_/\(x_).Perm a0/\failedOf σ=none/\pendingOf σ=#[k1_]/\Up r x_ a0.size))
  (Q:=λc σ=>c=AS_/\(x_).Perm a0/\failedOf σ=none/\pendingOf σ=#[k1_]/\Up r x_ a0.size) ?_ ?_ (.inl ⟨rfl,rfl,b⟩)) ?_)
 .rintro x c σ _ hx (⟨rfl,rfl,b'⟩|⟨_,rfl,d⟩)
  .dsimp only;rw[IF a!];simp only[Nat.sub_zero,Nat.min_self,SF];refine KR (c1l hl v_ a! b' λm bj b2 g1 g2 u2=>?_);by_cases au:m<a0.size
   .simp only[au,KA];refine KR (wpS_lift (LS ⟨rfl,KR (d0o hl v_ g2 b2 u2 λuv b3 u3=>?_)⟩));simp only[MC,JB,JT];refine KR fx_;rw[show(pendingOf uv).back?=none by rw[b3.pd];rfl];exact KR (wpS_modify (MU (.inr ⟨IN 1,rfl,fin b3 u3⟩)))
   .simp only[au,JT];have:m=a0.size:=by omega
    subst this;refine KR fx_;rw[show(pendingOf bj).back?=none by rw[b2.pd];rfl];exact KR (wpS_modify (MU (.inr ⟨IN 1,rfl,fin b2 u2⟩)))
  .dsimp only;rw[IB v_];exact MU ⟨rfl,d⟩
 .rintro c σ (⟨hx,_⟩|⟨_,e,d⟩)
  .omega
  .exact⟨e,d⟩
 .rintro c σ ⟨rfl,d1,d2,d3,d4⟩;refine KR (wpS_mono (RF (I:=λ_ c bj=>bj=σ/\c=fj!) (Q:=λc bj=>bj=σ/\c=fj!) ?_ AU! aE!) ?_)
  .rintro x c bj _ _ ⟨rfl,rfl⟩;refine KR fx_;rw[IB (by rw[d3];exact IN 1)];exact MU aE!
  .rintro c bj ⟨rfl,rfl⟩;exact MU (h _ d1 d2 d4)
end
abbrev Xn:Bool->SortKind:=sortPriv%PySem.Builtin.KeyKind.tuples
section
variable{prog:z7!}{w:yO!}{A:x8!}{E:Value->Shared->Prop}{s:z6!}
def Hg(h:Heap)(v:xT!)(a b:Int):Prop:=∃(p:xz!) (o:Obj) (n:Nat) (t u:Tok),v=.ref p/\h.get? p=some o/\o.cls=.type "tuple"/\o.data=.seq #[.int a t,.int b u] n
def CA(a b c d:Int):Bool:=if a=c then decide (b<d)else decide (a<c)
def xI{f:Bool}{a b:Int}{Q:df!}(h:Q (decide (a<b)) s):wpAny o_ A (oneLt' f gl! (.int b u)) Q E s:=by
 cases f with
 |true=>exact oneLt_int h
 |false=>
  rw[oneLt'_eq];rw[IF IV];refine HM (show wpAny o_ A (compareOp .Lt gl! (.int b u)) _ E s from PyProof.Rows.lt_int ?_);exact JW h
def vA{f:Bool}{a b c d:Int}{Q:df!}(hx:Hg s.heap x a b)(hy:Hg s.heap y c d)(h:Q (CA a b c d) s):wpAny o_ A (keyLt' (Xn f) x y) Q E s:=by
 obtain⟨p,o,n,t,u,rfl,J,_,h2⟩:=hx;obtain⟨p',o',n',t',u',rfl,iy,_,lp⟩:=hy;refine HM (RG J h2 (HM (RG iy lp f7!)));show wpAny o_ A (forIn [((Value.int a t,Value.int c t'),0),((Value.int b u,Value.int d u'),1)] _ _) _ E s;rw[MO];refine HM (HM (QR a t c t' _ _ _ _ ?_));unfold CA at h;by_cases e:a=c
 .rw[IB e]at h;have e1:(a==c)=true:=by simpa using e
  rw[e1];simp only[MC,JB,JT];refine HP ?_;dsimp only;rw[MO];refine HM (HM (QR b u d u' _ _ _ _ ?_));by_cases e2:b=d
  .have e3:(b==d)=true:=by simpa using e2
   rw[e3];simp only[MC,JB,JT];refine HP ?_;dsimp only;rw[PH];refine HP O_;have e4:decide (b<d)=false:=by rw[e2];simp
   rw[e4]at h;simpa using h
  .have e3:(b==d)=false:=by simpa using e2
   rw[e3];simp only[QG,KA];exact HM (xI (HP kk_))
 .rw[IF e]at h;have e1:(a==c)=false:=by simpa using e
  rw[e1];simp only[QG,KA];exact HM (xI (HP kk_))
def a8z{α β:Type}{f:α->Sem β}{F:cJ!}{Q:Array β->Shared->Prop}:∀(xs:O!),AU_->(∀ys,Paired F xs ys->Q ys.toArray s)->wpAny o_ A (xs.toArray.mapM f) Q E s:=by
 intro xs hf hq;rw[Array.mapM_eq_mapM_toList];have j4:∀(xs:O!) (R:List β->Shared->Prop),AU_->(∀ys,Paired F xs ys->R ys s)->wpAny o_ A (xs.mapM f) R E s:=by
  intro xs
  induction xs with
  |nil=>
   intro R _ h;rw[List.mapM_nil];exact HP (h [] .nil)
  |cons x xs ih=>
   intro R J h2;rw[List.mapM_cons];refine HM (J x HX _ λy hy=>HM (ih _ (λz hz=>J z pZ_) λys ql=>HP (h2 _ (.cons hy ql))))
 have:(List.toArray<$>xs.toArray.toList.mapM f:Sem (Array β))=(xs.toArray.toList.mapM f>>=λl=>pure l.toArray):=by rw[map_eq_pure_bind]
 rw[this];exact HM (j4 _ _ (by simpa using hf) λys ql=>HP (hq ys (by simpa using ql)))
def a4a{vs:g_}{Q:SortKind->Shared->Prop}(h:∀v∈vs,∃a b,Hg s.heap v a b)(h0:vs≠[])(hq:Q (Xn true) s):wpAny o_ A (keyKind' cm!) Q E s:=by
 refine HM (a8z (F:=λ_ y=>∃a t,y=some k3!) vs AW_ λys ql=>?_)
 .obtain⟨a,b,p,o,n,t,u,rfl,J,h2,h3⟩:=h v hv;refine HM (RJ (T:="tuple") n0! ?_);rw[IF c!];exact HM (RG J h3 (HP (hR _ ⟨a,t,rfl⟩)))
 .have gn:∀y∈ys,∃a t,y=some k3!:=by
   have j4:∀{l:g_} {m:List st!},Paired (λ_ y=>∃a t,y=some k3!) l m->∀y∈m,∃a t,y=some k3!:=by
    intro l m hp
    induction hp with
    |nil=>intro y hy;cases hy
    |cons q _ ih=>
     intro y hy;obtain rfl|hy:=HV.mp hy
     .exact q
     .exact ih y hy
   exact j4 ql
  have hne:ys≠[]:=λz=>by subst z;cases ql;exact h0 rfl
  rw[IB (by rw[List.all_toArray,LZ];intro y hy;obtain⟨a,t,rfl⟩:=gn y hy;rfl)];refine HM fc!;have hints:∀v∈(AX!).toList,∃a t,v=Value.int a t:=λv hv=>by
   simp only[List.filterMap_toArray,NS,id]at hv;obtain⟨y,hy,e⟩:=hv;obtain⟨a,t,e2⟩:=gn y hy;rw[e2]at e;exact⟨a,t,(JX e).symm⟩
  have hz:(AX!).toList≠[]:=λz=>by
   cases ys with
   |nil=>exact hne rfl
   |cons y r=>
    obtain⟨a,t,rfl⟩:=gn y HX;simp at z
  generalize hZ:ys.toArray.filterMap id=XV at hints hz ⊢;obtain⟨zs⟩:=XV;refine HM ?_;refine HM (a8z (F:=λ_ y=>y=Value.type "int") zs AW_ λts UA=>?_)
  .obtain⟨a,t,rfl⟩:=hints v iX_;exact RJ (typeIs_int s a t) (hR _ rfl)
  .have UB:∀t∈ts,t=Value.type "int":=by
    have j4:∀{l m:g_},Paired (λ_ y=>y=Value.type "int") l m->∀y∈m,y=Value.type "int":=by
     intro l m hp
     induction hp with
     |nil=>intro y hy;cases hy
     |cons q _ ih=>
      intro y hy;obtain rfl|hy:=HV.mp hy
      .exact q
      .exact ih y hy
    exact j4 UA
   cases ts with
   |nil=>cases UA;exact absurd rfl hz
   |cons t r=>
    have ht:=UB t HX;subst ht;have e1:((AY_).toArray)[0]?=some (Value.type "int"):=rfl;rw[e1];have e2:((AY_).toArray.all λx=>x==Value.type "int")=true:=by
     rw[List.all_toArray,LZ];intro y hy;rw[UB y hy];rfl
    dsimp only;rw[IB e2];exact HP (HP hq)
end
def Kq(p q:do_):Bool:=CA p.1 p.2 q.1 q.2
def oX{p q:do_}:Kq p q=true↔(p.1<q.1\/(p.1=q.1/\p.2<q.2)):=by
 unfold Kq CA;split
 .rename_i h;rw[JC];omega
 .rename_i h;rw[JC];omega
def b0q(p:do_):Kq p p=false:=by
 cases h:Kq p p with
 |false=>rfl
 |true=>have:=oX.mp h;omega
def jN{p q r:do_}(J:Kq p q=true)(h2:Kq q r=true):Kq p r=true:=by rw[oX]at J h2 ⊢;omega
def a0j{p q:do_}(h:p≠q)(J:Kq p q=false):Kq q p=true:=by
 have iy:¬Kq p q=true:=by rw[J];simp
 rw[oX]at iy ⊢;have:¬(p.1=q.1/\p.2=q.2):=λz=>h (Prod.ext z.1 z.2);omega
section
variable{α:Type}(kf:α->Int×Int)
def Ql(x:α):List α->List α
 |[]=>[x]
 |y::r=>if Kq (kf x) (kf y)then x::y::r else y::Ql x r
def Iu:List α->List α
 |[]=>[]
 |x::r=>Ql kf x (Iu r)
def Ol(l:O!):Prop:=l.Pairwise λx y=>Kq (kf x) (kf y)=true
variable {kf}
def qU(x:α):∀l:List α,(Ql kf x l).Perm (x::l)
 |[]=>PJ _
 |y::r=>by
  unfold Ql;split
  .exact PJ _
  .exact((qU x r).cons y).trans (List.Perm.swap x y r)
def bV:∀l:List α,(Iu kf l).Perm l
 |[]=>PJ _
 |x::r=>(qU x _).trans ((bV r).cons x)
def vG{x:α}:∀{l:O!},Ol kf l->(∀y∈l,kf x≠kf y)->Ol kf (Ql kf x l)
 |[],_,_=>QP _ _
 |y::r,h,hn=>by
  unfold Ql;unfold Ol at h;rw[KW]at h;split
  .rename_i au;refine KW.mpr ⟨k4!,KW.mpr h⟩;obtain rfl|hz:=HV.mp hz
   .exact au
   .exact jN au (h.1 z hz)
  .rename_i au;refine KW.mpr ⟨k4!,vG h.2 λz hz=>hn z pZ_⟩;obtain rfl|hz:=HV.mp ((qU x r).mem_iff.mp hz)
   .exact a0j (hn y HX) yA!
   .exact h.1 z hz
def gC:∀{l:O!},(l.map kf).Nodup->Ol kf (Iu kf l)
 |[],_=>ji!
 |x::r,h=>by
  rw[IE,IQ]at h;refine vG (gC h.2) λy hy e=>h.1 ?_;rw[e];exact IM ((bV r).mem_iff.mp hy)
def kX:∀{l m:O!},Ol kf l->Ol kf m->l.Perm m->l=m
 |[],m,_,_,h=>(List.Perm.nil_eq h)
 |x::l,m,J,h2,h=>by
  cases m with
  |nil=>exact absurd h.length_eq b_
  |cons y m=>
   have e:x=y:=by
    obtain e|hx:=HV.mp (h.mem_iff.mp HX)
    .exact e
    .obtain e|hy:=HV.mp (h.symm.mem_iff.mp HX)
     .exact e.symm
     .have a1:=(KW.mp J).1 y hy;have a2:=(KW.mp h2).1 x hx;have:=jN a1 a2;rw[b0q]at this;cases this
   subst e;rw[kX (KW.mp J).2 (KW.mp h2).2 ((List.perm_cons x).mp h)]
def b6f{β:Type}{f:k4_}{l m:dr!}(h:l.Perm m):∀{L:O!},m=L.map f->∃L':List α,L'.Perm L/\L'.map f=l:=by
 induction h with
 |nil=>intro L e;exact⟨[],by rw[List.map_eq_nil_iff.mp e.symm],rfl⟩
 |cons x _ ih=>
  intro L e;cases L with
  |nil=>cases e
  |cons y L=>
   injection e with e1 e2
   obtain⟨L',J,h2⟩:=ih e2;exact⟨y::L',J.cons y,by rw[IE,h2,e1]⟩
 |swap x y l=>
  intro L e
  match L,e with
  |a::b::L,e=>
   injection e with e1 e2
   injection e2 with e3 e4
   exact⟨b::a::L,List.Perm.swap a b L,by rw[IE,IE,<-e1,<-e3,<-e4]⟩
 |trans _ _ XW XX=>
  intro L e;obtain⟨L2,J,h2⟩:=XX e;obtain⟨L1,h3,h4⟩:=XW h2.symm;exact⟨L1,h3.trans J,h4⟩
def Iv(ks:fA!)(k:do_):Int:=((ks.filter λx=>Kq x k).length:Nat)
def qA{ks:fA!}{p q:do_}(hp:p∈ks)(h:Kq p q=true):Iv ks p<Iv ks q:=by
 unfold Iv;have j4:∀l:List hH_,(A1!).length<=(A1_).length:=by
  intro l
  induction l with
  |nil=>simp
  |cons x l ih=>
   simp only[SH];by_cases hx:Kq x p=true
   .simp only[hx,jN hx h,KA,IH];omega
   .by_cases hy:Kq x q=true
    .simp only[hx,hy,KA,IH];show"!}";omega
    .simp only[hx,hy];show"!}";exact ih
 have XY:∀l:List hH_,p∈l->(A1!).length<(A1_).length:=by
  intro l hl
  induction l with
  |nil=>cases hl
  |cons x l ih=>
   obtain e|hl:=HV.mp hl
   .subst e;have:=j4 l;simp only[SH,b0q,h,KA,IH,JB,JT];omega
   .have:=ih hl;simp only[SH];by_cases hx:Kq x p=true
    .simp only[hx,jN hx h,KA,IH];omega
    .by_cases hy:Kq x q=true
     .simp only[hx,hy,KA,IH];show"!}";omega
     .simp only[hx,hy];show"!}";exact this
 have:=XY ks hp;omega
def a9o{ks:fA!}{p q:do_}(hp:p∈ks)(hq:q∈ks):decide (Iv ks p<Iv ks q)=Kq p q:=by
 cases h:Kq p q with
 |true=>exact IY (qA hp h)
 |false=>
  refine IG λz=>?_;by_cases e:p=q
  .subst e;omega
  .have:=qA hq (a0j e h);omega
end
section
open Classical
variable{h:Heap}
def Hg.inj{a b c d:Int}(x:Hg h v a b)(y:Hg h v c d):dj_=(c,d):=by
 obtain⟨p,o,n,t,u,rfl,J,_,h2⟩:=x;obtain⟨p',o',n',t',u',e,iy,_,lp⟩:=y;cases e;rw[J]at iy;cases iy;rw[h2]at lp;injection lp with h3 _
 have:=congrArg Array.toList h3;simp at this;rw[this.1.1,this.2.1]
def Lk(h:Heap)(v:xT!):Int×Int:=if x:∃a b,Hg h v a b then(x.choose,x.choose_spec.choose)else(0,0)
def pE{a b:Int}(x:Hg h v a b):Lk h v=dj_:=by have z:∃a b,Hg h v a b:=⟨a,b,x⟩;unfold Lk;rw[dif_pos z];exact z.choose_spec.choose_spec.inj x
def rG{kf:D->Int×Int}{L:k5!}{ny a0:cc!}(ha:hD!=L.map c_)(hk:∀q∈L,Hg h q.1.1 (kf q.2).1 (kf q.2).2)(nd:(p3!).Nodup)(hp:ny.Perm a0)
  (hu:Up A2_ ny a0.size):∃L':List (Keyed×D),L'.Perm L/\ny.toList=L'.map c_/\L'.map M!=Iu kf p2_:=by
 have bx:ny.toList.Perm hD!:=Array.perm_iff_toList_perm.mp hp;obtain⟨L',J,h2⟩:=b6f bx ha;refine⟨L',J,h2.symm,kX ?_ k5_ ((J.map _).trans (bV _).symm)⟩;have nz:((L'.map M!).map kf).Nodup:=(((J.map _).map _).nodup_iff).mpr nd;unfold Ol;rw[QD];intro i j hi hj UC;have de:i<fA_:=by simpa using hi
 have xx:j<fA_:=by simpa using hj
 have hsz:ny.size=fA_:=by rw[<-KG,<-h2,IP]
 have bn:a0.size=fA_:=by rw[<-KG,ha,IP,J.length_eq]
 have UD:∀k (cz:k<fA_),rk A2_ ny k=Iv p3! (kf L'[k].2):=λk cz=>by
  unfold rk;have e:ny[k]?=some L'[k].1:=by
   rw[<-NY,<-h2,JN,IL cz];rfl
  rw[e];show Iv _ (Lk h L'[k].1.1)=_;rw[pE (hk L'[k] A3!)]
 have jo:=hu i j (NV UC) a!;rw[UD i de,UD j xx]at jo;simp only[List.getElem_map];have mem:∀k (cz:k<fA_),kf L'[k].2∈(p2_).map kf:=λk cz=>IM (IM A3!);have ne:kf L'[i].2≠kf L'[j].2:=λe=>by
  have q:=(List.getElem_inj (i:=i) (j:=j) (h₀:=by simpa using de) (h₁:=by simpa using xx) nz).mp cI_;omega
 cases au:Kq (kf L'[i].2) (kf L'[j].2)with
 |true=>rfl
 |false=>
  have:=qA (mem j xx) (a0j ne au);omega
end
def a8v(a v:xT!):argsOk "list.sort" A3_:=by unfold argsOk;kernel_rfl
def a1x(a v:xT!):argsOk "sorted" A3_:=by unfold argsOk;kernel_rfl
section
variable{X:Cx}{Y:List (Addr×Obj)}{Z:St}{G H:Hp}{s:z6!}{A:x8!}{E:Value->Shared->Prop}
def c1m{k:Nat}{sp:Sp}{Q:VK}(F:Fk X.prog X.w X.K X.mg X.base Pd k f fd ps sp)(hr:ge_)(hb:jC_)(e0:Qs X.prog X.w X.K X.mg X.base A X.stack s H)
  (I:d!)(r:ek_)(h:sp vs H Q E0):wpAny e! A (call af_ us) aD! E s:=by
 have hl:(us++[]).length=R_:=by rw[JH,<-r.length];exact F.len _ _ _ _ h
 have gc:=hb s us I.kIn hl;rw[JH]at gc;refine wpAny_call (RN (F.run A X.stack s H cX_ us vs Q E0 hr e0 gc r h) λr s' hq=>?_);cases r with
 |error e=>exact hq.elim
 |ok fl=>
  cases fl with
  |ret u=>exact I.after hq
  |next=>exact False.elim hq
  |brk=>exact False.elim hq
  |cont=>exact False.elim hq
def Mc:D->Option hH_
 |.tup [.int a,.int b]=>some dj_
 |_=>none
def a3f{a b:Int}(I:d!)(sub:E!)(r:bM_)(e:Mc d=some dj_):Hg s.heap u a b:=by
 unfold Mc at e;show"!8"
 .cases e;obtain⟨v,r,ru⟩:=r;show"!V";cases ru;show"!5";cases aZ r1;cases aZ r2;show"#/";obtain⟨x,y,rfl,⟨t,rfl⟩,⟨u,rfl⟩⟩:=wS rv;exact⟨p,o,n,t,u,rfl,J,h2,h3⟩
 .cases e
def Mu(g:ac_):List D->Option (List hH_)
 |[]=>some []
 |d::r=>(g [d]).bind λx=>(Mc x).bind λk=>(Mu g r).map (k::·)
def d0p{oc':Obj}{h':Heap}{t':Nat}(I:Inv X (Y++[ed_,(c,oc)]) Z H s)(hc:Fx X Y H c)(jb:a≠c)(kp:∀b o,b≠c->s.heap.get? b=some o->h'.get? b=some o)(ho:h'.get? c=some oc')(hd:∀v,oc'.data≠.cell v):
  Inv X (Y++[ed_,(c,oc')]) Z H {s with heap:=h',toks:=t'}:=by
 have pa:=I.pin ed_ (HZ _ b_);have I1:Inv X p3_ Z H s:=I.pins_of λp hp=>I.pin p (HZ _ (by
  obtain z|z:=II.mp hp
  .exact IT _ z
  .exact HZ _ (by simp at z;simp[z])))
 have j6:∀b∈[c],Fx X p3_ H b:=λb hb=>by
  have e:b=c:=by simpa using hb
  subst e;obtain⟨f0,f1,f2,f3,f4,f5⟩:=hc;refine⟨f0,f1,f2,f3,f4,cL_⟩;obtain z|z:=II.mp hp
  .exact f5 p h9_
  .obtain z|z:=II.mp z
   .exact f5 p ix!
   .have:p=ed_:=by simpa using z
    rw[this];exact jb
 have I2:Inv X p3_ Z H {s with heap:=h',toks:=t'}:=gW I1 j6 λb o hb e=>kp b o fZ_ e;refine I2.pins_of λp hp=>?_;obtain z|z:=II.mp hp
 .exact I2.pin p (HZ _ h9_)
 .obtain z|z:=HV.mp z
  .subst z;exact I2.pin _ fB!
  .have:p=(c,oc'):=by simpa using z
   subst this;exact⟨ho,hc.1,hc.2.1,hc.2.2.1,hd⟩
def xW{k:Nat}{ps:o!}{g:ac_}{body:Value->PUnit->Sem zp_}{Q:zo!}(F:A5_)(hr:p4!)(hb:jC_)(li:R_=1)(jb:a≠c)
  (pj:∀x (R:ForInStep PUnit->Shared->Prop) s,wpAny e! X.A.in1.in1 (call af_ [x]) (λk s'=>wpAny e! X.A.in1.in1 (Builtin.List.listUpdate cd! (·.push k)) (λ_ s2=>R (.yield ⟨⟩) s2) E s') E s->wpAny e! X.A.in1.in1 (body x ⟨⟩) R E s):
  ∀{ds:b!} {us:g_} {kd:b!} {ku:g_} {n:Nat} {ks:fA!} {s:z6!} {G H:Hp},Inv X (Y++[ed_,A6!]) Z H s->Ba G H->Paired cI! ds us->Paired cI! kd ku->Mu g ds=some ks->
   (∀H':Hp,H' c=none->Fx X Y H' c)->p5!+f_<=1000->
   (∀s' H' G' qm t0 n',Inv X (Y++[ed_,(c,seqObj "list" (ku++qm).toArray n')]) Z H' s'->Cc G H G' H'->Paired (Cn X.K G') (kd++t0) (ku++qm)->Paired p5_ t0 ks->Q ⟨⟩ s')->
   wpAny e! X.A.in1.in1 (forIn us ⟨⟩ body) Q E s
 |_,_,kd,ku,n,ks,s,G,H,I,sub,.nil,pk,e,st,hl,hq=>by
  rw[PH];cases e;refine HP (hq s H G [] [] n ?_ aJ! ?_ .nil)
  .rw[JH];exact I
  .rw[JH,JH];exact pk
 |d::ds,u::us,kd,ku,n,ks,s,G,H,I,sub,.cons r t,pk,e,st,hl,hq=>by
  show"!l";obtain⟨v,rv,ru⟩:=r;rw[MO];simp only[IH]at hl;refine HM (pj u _ s (cX (c1m (vs:=[v]) (Q:=λv' H'=>∃G',Cc G H G' H'/\Aq X.K G' x v') F hr hb I.env0.in1.in1 I ud! ⟨li.symm,G,[d],x,sub,Al.cons rv Al.nil,e1,λv' G' H' x' r'=>⟨G',x',r'⟩⟩) λkv s1 ⟨v1,H1,I1,X0,G1,x1,r1⟩=>?_));have pc:=I1.pin A6! fB!;refine PU pc.1 rfl ?_ k6! (by simp only[Array.size_push,HY];rw[KH];omega);have e4:=OX pc.1 (·.push kv);have I2:=d0p (oc':=seqObj "list" (ku++[kv]).toArray (if(ku.toArray.push kv).size==ku.toArray.size then n else n+1)) (t':=s1.toks) I1 (st H1 pc.2.1) jb (λb o hb e=>(JI _ _ eL!).trans e) (by rw[e4,List.push_toArray]) ve_;refine xW F hr hb li jb pj I2 x1.sub (Paired.mapP t λ_ _ z=>z.mono x1.g) (iZ (Paired.mapP pk λ_ _ z=>z.mono x1.g) (.cons ⟨v1,r1,X0⟩ .nil)) e3 st zs_ λs' H' G' qm t0 n' I' x' p' k'=>?_;refine hq s' H' G' (kv::qm) (x::t0) n' ?_ (x1.trans x') ?_ (.cons e2 k')
  .rw[KL]at I';exact I'
  .rw[KL,KL]at p';exact p'
end
def Hx(g:ac_)(d:D):Int×Int:=((g [d]).bind Mc).getD (0,0)
def uZ{g:ac_}:∀{ds:b!} {ks:fA!},Mu g ds=some ks->ks=ds.map ee_
 |[],_,e=>by cases e;rfl
 |d::r,ks,e=>by
  show"!l";rw[IE,<-uZ e3];congr 1;unfold Hx;rw[e1];show q=(Mc x).getD _;rw[e2];rfl
section
variable{X:Cx}{Y:List (Addr×Obj)}{Z:St}{G H:Hp}{s:z6!}{A:x8!}{E:Value->Shared->Prop}
def uN{P:Value->D->Prop}{R:D->Value->Prop}:∀{ku us:g_} {ds:b!},Paired P ku ds->Paired R ds us->∀q∈(hI_).zip ds,P q.1.1 q.2/\R q.2 q.1.2
 |_,_,_,.nil,.nil,q,h=>by simp at h
 |_,_,_,.cons p t,.cons r u,q,h=>by
  rw[PY,PY]at h;obtain rfl|h:=HV.mp h
  .exact⟨p,r⟩
  .exact uN t u q h
def iY{α β γ:Type}{R:cJ!}{f:γ->α}{h:γ->β}:∀{l:List γ},(∀q∈l,R (f q) (h q))->Paired R fB_ (l.map h)
 |[],_=>.nil
 |q::r,hh=>.cons (hh q (HX ..)) (iY λz hz=>hh z pZ_)
def fV{α β:Type}{R:cJ!}:∀{l:O!} {m:dr!},Paired R l m->aC!=m.length
 |_,_,.nil=>rfl
 |_,_,.cons _ t=>by rw[IH,IH,fV t]
def rH{G:Hp}{kf:D->Int×Int}(hp:∀d u a b,Cn X.K G d u->Mc d=some dj_->Hg h u a b):∀{kd:b!} {ku:g_} {ds:b!},Paired cI! kd ku->Paired p5_ kd (ds.map kf)->Paired (λv d=>Hg h v (kf d).1 (kf d).2) ku ds
 |_,_,[],.nil,_=>.nil
 |_,_,_::_,.nil,h=>by cases h
 |_,_,[],.cons _ _,h=>by cases h
 |_,_,_::_,.cons r t,.cons k u=>.cons (hp _ _ _ _ r k) (rH hp t u)
def d0l{st:SortSt}{us':g_}{ku:g_}{e e1:Nat}{P:k6_}(xy:(z_).map M!=op!)(hz:us'.length<64)(TU:p5!<64)(hf:failedOf st=none)(jb:a≠c)
  (gg:p7_)(j6:A9!)(I:Ba!)
  (hP:∀s' n',Inv X Y Z H s'->s'.heap.get? a=some hJ!->P hJ_ s'):wpAny e! A Ba_ P E s:=by
 have pa:=I.pin k7! fB!;have pc:=I.pin A9_ fB!;unfold ksk_tail;dsimp only;rw[xy];refine HM (PU pc.1 rfl ?_ k6! bL!);refine HM (OK ?_);have ea:(s.heap.update c Bb_).get? a=some p8!:=(JI _ _ (JE jb)).trans pa.1;refine HM (seqEpoch_at ea rfl ?_);show"!}";refine HM (PU ea rfl ?_ bL! k6!);rw[hf];simp only[RW,JB,JT];have I1:Inv X Y Z H s:=I.unpinned;refine HP (hP _ _ (gW (wr:=[a,c]) (t':=s.toks) I1 h5_ λb o hb q=>?_) (OX ea λ_=>op!))
 .obtain rfl|hb:=HV.mp hb
  .exact gg H pa.2.1
  .rw[k7_];exact j6 H pc.2.1
 .have J:b≠a:=λz=>hb (by rw[z];exact HX ..);have h2:b≠c:=λz=>hb (by rw[z];exact HS _ (HX ..));exact(JI _ _ (JE J)).trans ((JI _ _ (JE h2)).trans q)
def d3g{g:ac_}{ds:b!}{us ku:g_}{e e1:Nat}{P:k6_}(nv:f_<64)(nd:(ds.map ee_).Nodup)(jb:a≠c)
  (gg:p7_)(j6:A9!)(I:Ba!)(sub:E!)
  (pu:p8_)(pk:Paired cI! kd ku)(kk:Paired p5_ kd (ds.map ee_))
  (hP:∀s' us' n',Inv X Y Z H s'->Paired cI! p9! us'->s'.heap.get? a=some hJ!->P hJ_ s'):wpAny e! A (ksk_end a false us.toArray e1 cd! ku.toArray) P E s:=by
 have z:=rH (X:=X) (h:=s.heap) (λd u a b r q=>a3f I sub r q) pk kk;have l1:aq_=f_:=(fV pu).symm;have l2:p5!=f_:=fV z;have mem:=uN z pu;have ic:(k8!).toList=(hK!).map c_:=by
  rw[ksk_zip,Bd!]
 have hd:(hK!).map M!=ds:=List.map_snd_zip p9_;have fin:∀{L':k5!} {st:SortSt},L'.Perm hK!->(z_).toList=L'.map c_->L'.map M!=Iu ee_ ds->failedOf st=none->wpAny e! A Ba_ P E s:=λ{L' st} J h2 h3 h4=>by
  refine d0l (us':=L'.map (·.1.2)) ?_ (by rw[IP,J.length_eq,KZ,KZ];omega) a! h4 jb gg j6 I λs' n' I' e'=>hP s' _ n' I' ?_ e'
  .apply Bd_;rw[Array.toList_map,h2,JU];rfl
  .rw[<-h3];exact iY λq hq=>(mem q (J.mem_iff.mp hq)).2
 unfold ksk_end;dsimp only;show"!}";by_cases h2:jX!<2
 .rw[IB h2,IB h2];refine HM O_;rw[StateT.run_pure];show"#(";refine fin (L':=(hI_).zip ds) (PJ _) ic ?_ rfl;rw[hd];rw[HY,l1]at h2
  match ds,h2 with
  |[],_=>rfl
  |[x],_=>rfl
  |_::_::r,h2=>simp at h2;omega
 .rw[IF h2,IF h2];rw[HY]at h2;refine HM (a4a (vs:=ku) Be_ (λz=>by rw[z]at l2;simp at l2;omega) ?_)
  .show"!a"
  .have hsz:(k8!).size=f_:=by rw[<-KG,ic,IP,KZ,KZ];omega
   have hk:∀q∈(hI_).zip ds,Hg s.heap q.1.1 (qa!).1 (qa!).2:=λq hq=>(mem q hq).1;have nz:(hK_).Nodup:=by rw[hd];exact nd
   refine HM (KS (b5b (kd:=Xn true) (a0:=ku.toArray.zip co_) (r:=λp=>Iv hK_ Bf!) (Q:=λ_ σ=>(x_).Perm k8!/\failedOf σ=none/\Up (λp=>Iv hK_ Bf!) x_ (k8!).size)
    (Bf_) Bg! Bg_ Bh! λσ a1 a2 a3=>Bh_) ?_ λ_ _ e=>e)
   .rw[ic]at hx hy;obtain⟨p,hp,rfl⟩:=IU.mp hx;obtain⟨q,be,rfl⟩:=IU.mp hy;refine vA k8_ k9! ?_;have mm:∀p∈(hI_).zip ds,Hx g p.2∈((hK!).map M!).map ee_:=λp hp=>IM (IM hp);have hh:decide Bi!=Kq (Hx g p.2) qa!:=by
     show"#="
    have l8:Q (decide Bi!) s:=hq;rw[hh]at l8;exact l8
   .show"!D";exact fin b1 b2 Bi_ a2
def d0k{k:Nat}{ps:o!}{g:ac_}(F:A5_)(hr:p4!)(hb:jC_)(li:R_=1)
  {us:g_}{ds:b!}{n:Nat}{ks:fA!}{P:k6_}(I:d!)(sub:E!)(pu:p8_)(ha:Bj!)(fq:hT_)
  (gg:p7_)(ek:Mu g ds=some ks)(nd:hi!)(nv:f_<64)
  (hP:∀s' H' G' us' n',Inv X Y Z H' s'->Cc G H G' H'->Paired (Cn X.K G') p9! us'->H' a=none->s'.heap.get? a=some hJ!->P hJ_ s'):
  wpAny e! X.A.in1.in1 (ksk_tree a af_ false) P E s:=by
 have l1:aq_=f_:=(fV pu).symm;have X1:=uZ ek;obtain⟨e1,t3⟩:∃e1,(s.heap.update a (Obj.mapSeq λ_=>(#[]:Array Value))).get? a=some (seqObj "list" #[] e1):=Bj_;unfold ksk_tree;refine HM Bl!;refine HM Bk!;refine HM Bk_;refine HM Bl_;refine HM qb!;refine JS ?_;have hsz:(cd_).objs.size=g!+1:=by rw[size_push',Heap.size_update]
 show wpAny _ _ (ksk_rest a af_ false us.toArray e1 (.ref (cd_).objs.size)) P E {s with heap:=(cd_).push ce!};have gh:(qb_).get? (cd_).objs.size=some ce!:=IK _ rfl;rw[hsz]at gh ⊢;have jb:a≠g!+1:=JF (OA (IS ha));have j6:∀H':Hp,H' ac!=none->Fx X Y H' ac!:=λH' q=>I.fpOk (LX _) q;have l9:(qb_).get? a=some p8!:=HU _ (HU _ t3);have I1:Inv X Y Z H {s with heap:=(cd_).push ce!}:=
  gW (wr:=[a]) (t':=s.toks) I (λb hb=>by rw[k7_];exact gg H fq) λb o hb q=>HU _ Bn!
 have fa:=gg H fq;have fc:=j6 H ta!;have I2:Inv X (Y++[k7!,(g!+1,seqObj "list" (vd_).toArray 0)]) Z H {s with heap:=(cd_).push ce!}:=I1.pins_of λp hp=>by
  obtain z|z:=II.mp hp
  .exact I1.pin p ix!
  .obtain rfl|z:=HV.mp z
   .exact⟨l9,fq,fa.2.1,fa.2.2.1,gK!⟩
   .rw[ef!];exact⟨gh,fc.1,fc.2.1,fc.2.2.1,gK!⟩
 generalize g!+1=c at *;unfold ksk_rest;refine HM fc!
 first
  |rw[List.forIn_toArray]
  |(rw[<-Array.forIn_toList];simp only[List.toList_toArray])
  |rw[<-Array.forIn_toList]
 refine HM (KS (xW (E:=vg_) (Q:=λ_ s'=>wpAny e! X.A.in1.in1 _ P E s') F hr hb li jb (λx R s' hx=>?_) I2 sub pu .nil ek j6 (by rw[MN];omega) λs' H' G' qm t0 n' I' x' p' k'=>?_) AU! λ_ _ z=>z.elim)
 .refine HM (ON (KS hx (λkv s2 hk=>?_) λ_ _ z=>z.elim));dsimp only;exact HM (KS hk (λ_ s3 z=>HP z) λ_ _ z=>z)
 .rw[KP]at I';rw[KP,KP]at p';have pc:=I'.pin (c,seqObj "list" qm.toArray n') fB!;have pa:=I'.pin k7! fB!;refine HM (RG pc.1 rfl ?_);rw[X1]at k' nd;exact d3g nv nd jb gg j6 I' x'.sub (Paired.mapP pu λ_ _ z=>z.mono x'.g) p' k' λs3 us' n3 I3 p3 e3=>hP s3 H' G' us' n3 I3 x' p3 pa.2.1 e3
def Zm(g:ac_)(ds:b!):Option aI_:=(Mu g ds).bind λks=>if hi!/\f_<64 then some p9! else none
def Uj(g:ac_)(fa:e_):Ad->Option D:=λρ=>(eY!).bind λd=>match d with
 |.lst ds=>(Zm g ds).map D.lst
 |_=>none
def lA{K:zY!}:∀{ds:b!} {vs:m_} {us:g_},Al K G ds vs->Ax vs us->Paired fC_ ds us
 |[],vs,us,r,p=>by cases cG r;cases p;exact .nil
 |d::ds,vs,us,r,p=>by
  obtain⟨v,t,rfl,r1,r2⟩:=bF r;cases p with
  |cons a b=>exact .cons ⟨v,r1,a⟩ (lA r2 b)
def lD{K:zY!}:∀{ds:b!} {us:g_},Paired fC_ ds us->∃vs,Al K G ds vs/\Ax vs us
 |_,_,.nil=>⟨[],Al.nil,.nil⟩
 |_,_,.cons ⟨v,r,p⟩ t=>let⟨vs,r2,p2⟩:=lD t;⟨v::vs,Al.cons r r2,.cons p p2⟩
def a9f{us':g_}{n':Nat}{s0:z6!}{H0:Hp}{ds:b!}{Q:VK}(I0:Inv X Y Z H0 s0)(I:d!)(sub:E!)(hs:Ae!<=a)(pu:Paired cI! ds us')(hz:f_<=sizeLine)(ho:s.heap.get? a=some hJ!)(hn:hT_)
  (hQ:∀v G' H',Cc G H G' H'->Aq X.K G' cq! v->Q v H'):EP X Y Z Q F! s:=by
 obtain⟨vs,r,p⟩:=lD pu;have f:=I0.fpOk hs hn;refine⟨bA!,upd H a cr!,I.track ho p (by rw[<-aI r];exact hz) hn ?_ f.2.1 f.2.2.2.2.1 f.2.2.2.2.2,rfl,hQ _ _ _ (Cc.laid sub hn) ?_⟩
 .exact JM I0.sz hs
 .exact Aq.lst (Fh.of bQ) (r.mono (λb u e=>by rw[aY (λz=>by rw[z]at e;rw[sub _ _ e]at hn;cases hn)];exact e))
def yQ:bootBuiltins "sorted"=some la!:=by decide+kernel
def yZ{us:g_}{Q:l_}(hl:qe!)(hz:aq_<64)
  (h:wpAny e! X.A.in1.in1 (ksk_tree ac! af_ false) (λfin s'=>∃v,fin=.done (.ret v)/\Q (.ref ac!) s') E {s with heap:=(la_).push lb!}):
  wpAny e! X.A (call la! hL! [(Str.ofString "key",.ref f)]) Q E s:=by
 refine call_function_entry_kw kind_sorted plain_sorted entry_sorted (a1x _ _) ?_;unfold Builtin.«sorted»;refine HM (m:=Bn_) O_;refine HM (collect_list hl ?_ Bo!);refine HM (QC ?_ Bo!);have hsz:(la_).objs.size=g!+1:=by
  rw[Heap.size_update,size_push']
 have kj:((la_).push lb!).get? ac!=some lb!:=by
  rw[<-hsz];exact IK _ rfl
 show wpAny _ _ _ _ _ {s with heap:=(la_).push lb!};rw[hsz];refine HM (JS (wpAny_call_entry_kw slot_list_sort Bo_ entry_list_sort ?body (a8v _ _)))
 case body=>
  rw[ksk_t1];refine KS h (λfin s' hq=>?_) λ_ _ z=>z;obtain⟨v,rfl,hq⟩:=hq;exact⟨v,rfl,HP ⟨_,rfl,hq⟩⟩
variable{own:List Nat}{fa:Ad->Option D}{e:Expr}{pos p p2 kp:Pos}{x:Str}
def b9x{k:Nat}{ps:o!}{g:ac_}(F:w9!)(hr:p4!)(X2:J!)(xz:Gl X "sorted")(x5:X.mg "sorted"=none)(ha:DE X own e fa)(li:R_=1:=by rfl)(a8:y_:=by decide)
  (he:gZ!:=by rfl):
  DE X own (.Call (.Name "sorted" p) [e] [⟨some "key",cv!,kp⟩] pos) (Uj g fa):=⟨by
 obtain⟨ag,fd,J,h2,h3,h4⟩:=F;intro Y s Z H Q I ⟨G,ρ,d,er,e1,kq⟩;obtain⟨d0,e2,e1⟩:=HN.mp e1;cases d0 with
 |lst ds=>
  obtain⟨qc,e3,rfl⟩:=IA.mp e1;obtain⟨ks,e4,e5⟩:=HN.mp e3;have qg:hi!/\f_<64:=by
   by_cases z:hi!/\f_<64
   .exact z
   .rw[IF z]at e5;cases e5
  rw[IB qg]at e5;cases e5;have da:=(aD ha aK he).ok;refine MD (iP I xz x5 yQ ?_ c! c!);refine callWith_kw (cX (da pos Y s Z H _ I ⟨G,ρ,[.lst ds],er,by unfold Ac Ag;rw[e2];rfl,λvs G1 H1 x1 r1=>(⟨G1,x1,r1⟩:∃G1,Cc G H G1 H1/\Al X.K G1 [.lst ds] vs)⟩) λus s1 ⟨vs,H1,I1,r,G1,x1,r1⟩=>?_) lb_ lb_ rfl rfl;refine kws_cons (iB I1 X2 h3 (kws_nil ?_) a8);obtain⟨v,t,rfl,rv,rr⟩:=bF r1;cases cG rr;obtain⟨l,xs,rfl,sq,rx⟩:=bO rv;obtain⟨its,hv,pl,hz⟩:=I1.list Bp_;cases r with
  |cons ra rb=>
   cases rb;cases ra;show wpAny e! X.A (call la! hL! [(Str.ofString "key",.ref ag)]) _ _ s1;have lz:gy!=f_:=by rw[<-hv.length,<-aI rx]
   obtain⟨nn,sl,ho⟩:=nG pl;refine yZ (us:=its) ⟨_,ho,rfl,nn,rfl⟩ (by rw[lz];exact qg.2) ?_;have keep:∀b o,s1.heap.get? b=some o->(Br!).get? b=some o:=λb o q=>by
    have au:b<y!:=IS q;exact HU _ ((Heap.get?_update_ne _ _ _ _ (JF au)).trans ((Heap.get?_push_ne _ _ _ (JF au)).trans q))
   have hsz:(Bq!).objs.size=y!+1:=by
    rw[Heap.size_update,size_push']
   have kj:(Br!).get? (y!+1)=some Bq_:=by
    rw[<-hsz];exact IK _ rfl
   have I2:=I1.kept (t':=s1.toks) keep;have b9:y!<=y!+1:=LX _;refine d0k J hr h2 li I2 x1.sub (lA rx hv) kj (I1.hok.fresh b9) (λH' q=>I1.fpOk b9 q) e4 qg.1 qg.2 λs3 H3 G3 us3 n3 I3 x3 p3 X3 ya=>oC!;exact a9f I1 I3 x3.sub b9 p3 Br_ ya X3 λv G4 H4 x4 r4=>kq v G4 H4 (x1.trans (x3.trans x4)) r4
 |_=>cases e1⟩
end
def c1d{es:Y_}{ep:Nat}(hd:z3_):W.KdlSrc P w "dict" d d es.length pL! (λh=>Oa h d es ep) where
 type:=λ_ hm=>hm.typeIs
 there:=λ_ hm=>let⟨_,ho,_⟩:=hm;⟨IS ho,IS ho⟩
 keep:=λ_ _ hm hk=>hm.at λo e=>hk d aj_ o e
 notList:=by decide
 notTuple:=by decide
 hint:=λ_ _ _ _ hm hq=>W.kdl_hint_dict hm.typeIs hq
 iter:=λ_ _ hh hm=>⟨_,_,(λ_ _ hq=>b8r hd hm hq),b1q hh _ d (let⟨_,ho,_⟩:=hm;JF hZ!) es ep,⟨eq!,hm.at λo e=>HU _ e⟩⟩
section
variable{X:Cx}{Y:List (Addr×Obj)}{Z:St}{G H:Hp}{s:z6!}{A:x8!}{E:Value->Shared->Prop}
def c8c{K:zY!}{h1:j!}{es:Y_}{acc:I!}(ok:fm_)(hi:Bs_):Paired fC_ fm! qe_:=by
 have ea:qe_=es.map kl!:=by
  apply RY;intro i;rw[JN];by_cases h:i<ae!
  .have J:i<acc.size:=by rw[hi.1];exact h
   show"!b"
  .rw[Bt!,KJ a!];rfl
 rw[ea];have:∀{h1:j!} {es:Y_},Paired Bt_ h1 es->Paired fC_ fm! hM!:=λ{h1 es} h=>by
  induction h with
  |nil=>exact .nil
  |cons a _ ih=>exact .cons a ih
 exact this Bu!
nonrec def kf2(d:D):Int×Int:=(Mc d).getD (0,0)
def Wg(ds:b!):Option aI_:=if qf!=true/\(qf_).Nodup/\f_<64 then some qg! else none
def d0j{us:g_}{ds:b!}{n:Nat}{P:k6_}(I:d!)(sub:E!)(pu:p8_)(ha:Bj!)(fq:hT_)
  (gg:Fx X Y H a)(ek:qf!=true)(nd:(qf_).Nodup)(nv:f_<64)
  (hP:∀s' us' n',Inv X Y Z H s'->Paired cI! qg! us'->s'.heap.get? a=some hJ!->P hJ_ s'):
  wpAny e! A (Builtin.«list.sort» nn_) P E s:=by
 have l1:aq_=f_:=(fV pu).symm;obtain⟨e1,t3⟩:∃e1,(s.heap.update a (Obj.mapSeq λ_=>(#[]:Array Value))).get? a=some (seqObj "list" #[] e1):=Bj_;rw[list_sort_plain];refine HM Bl!;refine HM Bk!;refine HM Bk_;refine HM Bl_;refine HM qb!;refine JS ?_;show wpAny _ _ _ P E {s with heap:=(cd_).push ce!};have I1:Inv X Y Z H {s with heap:=(cd_).push ce!}:=
  gW (wr:=[a]) (t':=s.toks) I Bu_ λb o hb q=>HU _ Bn!
 have l9:(qb_).get? a=some p8!:=HU _ (HU _ t3);generalize (cd_).push ce!=h3 at I1 l9 ⊢;have pk:∀d∈ds,Mc d=some lc!:=λd hd=>by
  have:=LZ.mp ek d hd;unfold kf2;cases q:Mc d with
  |none=>rw[q]at this;cases this
  |some z=>rfl
 have z:Paired Bv! us ds:=by
  have gen:∀{ds:b!} {us:g_},Paired cI! ds us->(∀d∈ds,Mc d=some lc!)->Paired Bv! us ds:=λ{ds us} h=>by
   induction h with
   |nil=>exact λ_=>.nil
   |cons r _ ih=>exact λhk=>.cons (a3f I1 sub r (hk _ (HX ..))) (ih λd hd=>hk d (HS _ hd))
  exact gen pu pk
 have mem:=uN z pu;have ic:(hM_).toList=(fE_).map c_:=by
  rw[ksk_zip,Bd!]
 have hd:(fE_).map M!=ds:=List.map_snd_zip p9_;have fin:∀{L':k5!} {st:SortSt},L'.Perm fE_->(z_).toList=L'.map c_->L'.map M!=Iu kf2 ds->failedOf st=none->
   P hJ_ {s with heap:=h3.update a (Obj.mapSeq λ_=>(z_).map M!)}:=λ{L' st} b1 b2 b3 b4=>by
  have xy:(z_).map M!=(Bv_).toArray:=by
   apply Bd_;rw[Array.toList_map,b2,JU];rfl
  rw[xy];refine hP _ _ _ (gW (s:={s with heap:=h3}) (wr:=[a]) (t':=s.toks) I1 Bu_ λb o hb q=>(Bm_).trans q) ?_ (OX l9 λ_=>(Bv_).toArray);rw[<-b3];exact iY λq hq=>(mem q (b1.mem_iff.mp hq)).2
 have UE:∀{L':k5!} {st:SortSt},L'.Perm fE_->(z_).toList=L'.map c_->((z_).map M!).size<=sizeLine+1:=λ{L' st} b1 b2=>by
  rw[Array.size_map,<-KG,b2,IP,b1.length_eq,KZ,KZ,KH];omega
 by_cases h2:jX!<2
 .rw[IB h2,IB h2];show"#(";rw[StateT.run_pure];show"#(";refine HM qh!;refine HM (PU l9 rfl ?_ bL! (UE (L':=(hN!).zip ds) (PJ _) ic));simp only[failedOf,RW,JB,JT];refine HP (fin (L':=(hN!).zip ds) (st:=SortSt.mk' general' hM_ #[] 7 none) (PJ _) ic ?_ rfl);rw[hd];rw[HY,l1]at h2
  match ds,h2 with
  |[],_=>rfl
  |[x],_=>rfl
  |_::_::r,h2=>simp at h2;omega
 .rw[IF h2,IF h2];rw[HY]at h2;refine HM (a4a (vs:=us) Be_ (λz=>by rw[z]at h2;simp at h2) ?_)
  .show"!a"
  .have hsz:(hM_).size=f_:=by rw[<-KG,ic,IP,KZ,KZ];omega
   have hk:∀q∈(hN!).zip ds,Hg h3 q.1.1 (ld_).1 (ld_).2:=λq hq=>(mem q hq).1;have nz:(fG!).Nodup:=by rw[hd];exact nd
   refine HM (KS (b5b (kd:=Xn true) (a0:=us.toArray.zip co_) (r:=λp=>Iv fG! (Lk h3 p.1)) (Q:=λ_ σ=>(x_).Perm hM_/\failedOf σ=none/\Up (λp=>Iv fG! (Lk h3 p.1)) x_ (hM_).size)
    (Bf_) Bg! Bg_ Bh! λσ a1 a2 a3=>Bh_) ?_ λ_ _ e=>e)
   .rw[ic]at hx hy;obtain⟨p,hp,rfl⟩:=IU.mp hx;obtain⟨q,be,rfl⟩:=IU.mp hy;refine vA k8_ k9! ?_;have mm:∀p∈(hN!).zip ds,kf2 p.2∈((fE_).map M!).map kf2:=λp hp=>IM (IM hp);have hh:decide qi_=Kq (kf2 p.2) ld_:=by
     show"#="
    have l8:Q (decide qi_) {s with heap:=h3}:=hq;rw[hh]at l8;exact l8
   .show"!D";refine HM qh!;refine HM (PU l9 rfl ?_ bL! (UE b1 b2));rw[a2];simp only[RW,JB,JT];exact HP (fin b1 b2 Bi_ a2)
def a4e{es:Y_}{acc:I!}(hi:Bs_):qe_=es.map kl!:=by
 apply RY;intro i;rw[JN];by_cases h:i<ae!
 .have J:i<acc.size:=by rw[hi.1];exact h
  show"!b"
 .rw[Bt!,KJ a!];rfl
def EZ(M:Mh):List D->Option D
 |[d]=>(Ea M d).map λq=>.lst kV_
 |_=>none
def b3k{K:zY!}{h1:j!}{es:Y_}(ok:fm_):∃ys,Al K G fm! ys/\Ax ys hM!:=by
 have:∀{h1:j!} {es:Y_},Paired Bt_ h1 es->Paired fC_ fm! hM!:=λ{h1 es} h=>by
  induction h with
  |nil=>exact .nil
  |cons a _ ih=>exact .cons a ih
 exact lD (this Bu!)
def Wk(K:zY!):List V->Hp->VK->Prop:=λxs H Q=>∃G ds,Ba G H/\(∃d es ep,xs=[.ref d]/\H d=some d9_/\Paired fC_ ds hM!)/\qf!=true/\(qf_).Nodup/\f_<64/\∀v G' H',Cc G H G' H'->Aq K G' (.lst qg!) v->Q v H'
def wO(hc:ay!):Ir X la! (Wk X.K):=by
 intro Y s Z H xs us Q I r ⟨G,ds,sub,⟨d,es,ep,e1,e2,hv⟩,q1,q2,q3,k⟩;subst e1;cases r with
 |cons ra rb=>
  cases rb;cases ra;obtain⟨⟨h3,h4,h5⟩,_⟩:=(show Eo X.prog X.w H s.heap d d9_ from I.hok d _ e2);have lz:ae!=f_:=by rw[fV hv,IP]
  refine Calls.call_function_entry kind_sorted plain_sorted entry_sorted (args_sorted1 _) ?_;unfold Builtin.«sorted»;refine HM (m:=Bn_) O_;refine HM (W.kdu_collect (c1d h4) a3_ h3 hp! λh' tk acc hk hi=>?_);have ia:=a4e hi;refine HM (QC ?_ (by rw[ia,IP,KH];omega));rw[ia];have I1:=I.kept (t':=tk) hk;have kj:(h'.push hO_).get? fG_=some hO_:=IK _ rfl;have I2:Inv X Y Z H {s with heap:=h'.push hO_,toks:=tk}:=I1.kept (t':=tk) λb u q=>HU _ q;have hn:H fG_=none:=I1.hok.fresh v_;refine HM (JS (JR slot_list_sort Bo_ entry_list_sort ?body (args_list_sort _)))
  case body=>
   refine d0j (s:={s with heap:=h'.push hO_,toks:=tk}) I2 sub hv kj hn (I1.fpOk v_ hn) q1 q2 q3 λs3 us3 n3 I3 p3 ya=>⟨_,rfl,HP oC!⟩;exact a9f I1 I3 sub v_ p3 Br_ ya hn k
def Ro(M:Mh):List D->Option D
 |[d]=>(Ea M d).bind λq=>(Wg kV_).map D.lst
 |_=>none
def c0e{K:zY!}:Tu P w K (Wk K) Ro:=by
 show"!{";unfold Ro at e;show"!8"
 .obtain⟨q,e1,e⟩:=HN.mp e;obtain⟨l,e2,rfl⟩:=IA.mp e;unfold Wg at e2;split at e2
  .rename_i hz;cases e2;obtain⟨v,rfl,r1⟩:=fN r;obtain⟨rfl,rfl,hM⟩:=cQ r1 e1;obtain⟨es,J,h2⟩:=(m.cell q.1 _ hM).2;obtain⟨ys,g1,g2⟩:=b3k h2;exact⟨G,_,sub,⟨q.1,es,q.2.2,rfl,J,lA g1 g2⟩,hz.1,hz.2.1,hz.2.2,k⟩
  .cases e2
 .cases e
end
def Wj(M:Mh):D->D
 |.fn a=>match M a with|some (.lst xs)=>.lst xs|_=>.fn a
 |d=>d
def Vr(M:Mh)(x y:D):Option D:=Er (Wj M x) (Wj M y)
def a9p{P:z7!}{w:yO!}{K:zY!}{M:Mh}{G H:Hp}(sub:E!)(m:b7_)(r:cs!):Aq K H (Wj M d) v:=by
 cases d<;>first|exact r.mono sub|skip
 rename_i a;simp only[Wj];split
 .rename_i xs hM;show"!n";cases fM r;exact Aq.lst (Fh.of J) (h2.mono sub)
 .exact r.mono sub
def zR{P:z7!}{w:yO!}{K:zY!}:Xc P w K (Zo K) Vr:=by
 show"![";unfold Vr Er at e;show"!8"
 .show"!m";cases e;exact⟨_,_,a9p sub m rx,a9p sub m ry,h.1.1,h.1.2,h.2,dT!⟩
 .cases e
def Dt(K:zY!)(C:xz!)(m qual:Str)(st:Stmt)(ps:o!):Prop:=∃ag fd,Xf K m qual st ag fd/\Ex K fd ps []/\Xd K C m ag
def Tt(K:zY!)(mg:x!)(x:Str)(C:xz!)(qual:Str)(st:Stmt)(ps:o!):Prop:=mg x=some W!/\∃ag fd,Xf K "__init__" qual st ag fd/\Ex K fd ps []/\Mk K C ag
section
variable{P:z7!}{w:yO!}{K:zY!}{mg:Str->Option Value}{base h:Heap}{x qual:Str}{st:Stmt}{N ps:List Str}{k:Nat}{ae:List Nat}{q:WS}{C:xz!}
def cL(d:oM_)(S:c5!)
  (hb:∀{ag:xz!} {ah:xT!} {A:x8!} {outer:P_} {s:z6!} {H:Hp} {E:XK},Ak k kd_->Tz (oN!).nox [] ae bs! q):
  Ms P w K mg base M_ x ps kR_:=by
 obtain⟨ag,fd,F,B,m⟩:=d;exact⟨ag,fd,lg_,B,m,F.kp⟩
def cW(c:Ua K C)(d:Dt K C x qual st ps)(S:c5!)
  (hb:ql_):
  Ew P w K mg base M_ C x ps kR_:=by
 obtain⟨ag,fd,F,B,m⟩:=d;exact⟨c,ag,fd,m,lg_,B⟩
def zW(d:Tt K mg x C qual st ps)(S:c5!)
  (hb:ql_):
  Vy P w K mg base M_ x C ps kR_:=by
 obtain⟨m,ag,fd,F,B,mk⟩:=d;exact⟨m,ag,fd,mk,lg_,B⟩
def eG{od an:aG_}{dt:bB_}{kV:xT!}
  (a:W.findIn K W! x=some eu_)(i:mx_)(l:uC_)
  (c:iV!)(k:gC_)
  (b:uB!):Dt K C x qual st ps:=
 ⟨f,_,ke_,oP!,⟨a,i,k⟩⟩
def b7n{od an:aG_}{dt:bB_}{kV:xT!}(m:mg x=some W!)
  (a:sD!)(i:mx_)(l:K.lookup f=some ⟨oc,od,.func qn!,dt⟩)
  (c:iV!)(k:gC_)(mm:sC_)(kc:W.keepIn K W!=true)
  (b:∀(kV bq pm:xT!) (an:aG_) (ah ct:xT!) (us:g_),aq_=R_->bindArgs qn! cX_=pure cW_):Tt K mg x C qual st ps:=
 ⟨m,f,_,ke_,oP!,⟨mm,a,i,kc⟩⟩
def c3e(hd:AH K mg x st [y])(S:Ai N [y] bc!)(gg:mg x=some eQ!)
  (hb:∀(base:Heap) (ag:xz!) (ah:xT!) (A:x8!) (outer:P_) (s:z6!) (H:Hp) (E:XK),Ak k kd_->Tz (oN!).nox [] ae bs! q):
  ∃fd:FuncData,(∀(s:z6!) (u:xT!),BindsTo s fd ji_ [(y,u)])/\∀base:Heap,K.In base->base.Ns mainGlobals mg->Fk P w K mg base Pd M_ fa fd [y] (Xi P w K 1 (Ci N 1 q)):=by
 obtain⟨f,fd,F,B,m⟩:=hd;rw[gg]at m;cases m;exact⟨fd,λs u=>.of_eq (B [u] rfl),λbase _ _=>sT F S λah A outer s H E hr=>hb base _ ah A outer s H E hr⟩
def mY{α:Type}{p:fI_}(h:∀a,p [a]):∀us:List α,aq_=1->p us
 |[a],_=>h a
def rE{α:Type}{p:fI_}(h:∀a b,p al!):∀us:List α,aq_=2->p us
 |[a,b],_=>h a b
def us3{α:Type}{p:fI_}(h:∀a b c,p fJ!):∀us:List α,aq_=3->p us
 |[a,b,c],_=>h a b c
def us4{α:Type}{p:fI_}(h:∀a b c d,p [a,b,c,d]):∀us:List α,aq_=4->p us
 |[a,b,c,d],_=>h a b c d
def us5{α:Type}{p:fI_}(h:∀a b c d e,p [a,b,c,d,e]):∀us:List α,aq_=5->p us
 |[a,b,c,d,e],_=>h a b c d e
def M0:Mh:=λ_=>none
def c3d{g:WF}{H:Hp}{ns:r!}(hS:Fh K H a bY_)(hg:g lj! M0 λd _=>d=.bl true):Xi P w K 1 g bU_ H jj! λ_ _ _=>False:=
 ⟨rfl,H,lj!,M0,_,Ba.refl H,⟨λa c e=>by cases e⟩,Al.cons (Aq.lst hS (yA ns)) Al.nil,hg,λd M' v G' H' r _ _ q=>by subst r;exact cS q⟩
end
end DL
namespace L2
open PySem PySem.Spec PyProof.Rows
def c1t{X:Cx}{i:Nat}{tg:Expr}{scope:Scope}{pos:Pos}{NL:o!}{ix:k!}{wi:TI}{g:TG}{tt:TT}{te:TE}
  (hN:aT_)(de:aa_)(hx:a2_)
  (cj:c6_)(cf:c7!)(jz:∀y∈b1_,y.2=.local->scope.names.lookup y.1=some .local)
  (gw:gK_)(cap:c6!)(calm:ay!)(ar:mf_)
  (hg:gL!)(hi:vn_)(he:vo!)
  (hs:cQ_:=by intro _;rfl)
  (fh:swapsWith hR! (some io_) pos.line X.env=pure true:=by rfl)
  (hf:X.fn x=true\/X.env.scope.names.lookup x=some .local:=by first|exact .inl rfl|exact .inr rfl|assumption):
  PS X (.Assign rt! hR! pos) (Zl vo_ eo_):=by
 intro Y s Z H D I h;show"!N"
 rw[exec_Assign_Name_used x pos' _ pos fh];refine HM (RB f7!);unfold evalThenUse;refine HM (wpAny_comprehension_free (use:=some _) rfl hs b8.eq cj jz vp!);obtain⟨it,fp,tn,af,H2,e,I2,T,bj,f2,hw⟩:=h2;subst e;refine yK (RR:=λacc C=>compPost e! X.A X.xe (some _) _ acc C) cj cf b8 cap calm (hg cl) (hi cl) (he cl) I2 T bj f2 hw λD' C us n ys H' s' I' eD rv av nD hD hC jj nC ⟨m,hn⟩ fin=>?_;have ez:∀b,b<J_->b≠C/\b≠D':=λb hb=>vr!;have pz:∀x c,X.env.cells.lookup x=some c->c<J_:=λx c h=>let⟨_,_,ho,_⟩:=I2.cell x c h;IS ho;have se:∀p∈X.pn++Y,p.1<J_:=λp hp=>IS (I2.pin p hp).1;have ID:=I'.track (D:=D') (us:=us) (n:=n) eD rv av nD (JM I2.sz hD) (JE (gL_).2) vu_ λp hp=>(js_).2;show wpAny e! X.A (assign io_ X.env (.ref D')) _ _ s';refine HM (m:=standAt pos') (RB ?_);refine wpAny_bindName (wW ID hN de hx (v:=.ref D') rfl (λs3 I3 ⟨a,sb,ha⟩=>?_) hf);have X4:a≠C:=by
  obtain rfl|ha:=ha
  .exact(gL_).1
  .exact(ez _ (pz _ _ ha)).1
 refine⟨m,hn.sameBut sb (JE X4),λh' cm=>?_⟩;have X5:upd H' D' bb! C=none:=by rw[aY (JE jj)];exact nC
 have IC:Inv X Y (Z.set i (some (.ref D'))) (upd H' D' bb!) {s3 with heap:=h',toks:=s3.toks}:=I3.turned (it:=C) vs! X5 (JE (gL_).1) vt! vu! λp hp=>(js_).1;exact HP (HP ⟨_,_,IC,fin D' nD⟩)
end L2
namespace DL
open PySem PySem.Spec PyProof.Rows L2
section
variable{X:Cx}{own:List Nat}{tg:Expr}{fi:WI}{ft:WT}
def kA{i:Nat}{scope:Scope}{pos p2:Pos}{NL:o!}{ix:k!}{g:TG}{bnd:ad!}{fe:WE}
  (hN:aT_)(de:aa_)(hx:a2_)
  (cj:c6_)(cf:c7!)(jz:∀y∈b1_,y.2=.local->scope.names.lookup y.1=some .local)
  (gw:gK_)(cap:c6!)(hix:jw!)(calm:ay!)(ar:pC!)
  (hg:gL!)(na:ob!)(hi:zS!)(he:zS_)
  (bt:aP!:=by decide)(hs:cQ_:=by intro _;rfl)
  (fh:swapsWith hR! (some db!) pos.line X.env=pure true:=by rfl)
  (hf:X.fn x=true\/X.env.scope.names.lookup x=some .local:=by first|exact .inl rfl|exact .inr rfl|assumption):
  MS X own own (.Assign [cv!] hR! pos) (Am i zT!):=
 oS (c1t hN de hx cj cf jz gw cap calm ar.ok hg hi wB! hs fh hf) λM0 G0 F0 E Z G H ρ M R sr e k1 k2=>⟨G,ρ,M,_,sr.st,e,λds ck M1 af G1 H1 r1 x1 m1 fg=>by
  obtain⟨hb,r1⟩:=r1;have px:=sr.st.grow x1 m1;refine b1j hb fg na zU! r1 λjl ys M' G' H' r x m q _ p hp=>?_;exact k1 _ M' _ _ _ r ((((zF_).grow x m).grow (.ext gX!) (m.ext gX!)).set bt (dM ob_ q))⟩
end
end DL
namespace DL
open PySem PySem.Spec PyProof.Rows L2
end DL
namespace XS
open PySem
abbrev frA(l:P_):List Addr:=l.filterMap (·.frame)
structure Kp(ak fr:I_)(h h':Heap):Prop where
 old:∀b o,b∉ak->b∉fr->h.get? b=some o->h'.get? b=some o
 frm:∀b o,b∈fr->h.get? b=some o->∃sl,h'.get? b=some {o with slots:=sl}
 thr:∀b o,h.get? b=some o->∃o',h'.get? b=some o'
 sz:bR!<=fG_
def Kp.trans{ak fr:I_}(a:Kp ak fr J h2)(b:Kp ak fr h2 h3):Kp ak fr J h3:=
 ⟨λx o l m e=>b.old x o l m qq_,λx o m e=>by
  obtain⟨sl,e1⟩:=a.frm x o m e;obtain⟨f7,e2⟩:=b.frm x _ m e1;exact⟨f7,e2⟩,λx o e=>let⟨o1,e1⟩:=a.thr x o e;b.thr x o1 e1,JM a.sz b.sz⟩
def Kp.weak{ak t6 fr:I_}(a:Kp ak fr h h')(hb:∀b∈ak,b∈t6):Kp t6 fr h h':=⟨λx o l m e=>a.old x o (λz=>l (hb x z)) m e,a.frm,a.thr,a.sz⟩
def Kp.skip{ak t6 fr:I_}{J:Heap}(a:Kp ak fr J h2)(b:Kp t6 fr h2 h3)(hb:∀x∈t6,x∈ak\/J.get? x=none):Kp ak fr J h3:=
 ⟨λx o l m e=>b.old x o (λz=>(hb x z).elim l λq=>by rw[q]at e;cases e) m qq_,λx o m e=>by
  obtain⟨sl,e1⟩:=a.frm x o m e;obtain⟨f7,e2⟩:=b.frm x _ m e1;exact⟨f7,e2⟩,λx o e=>let⟨o1,e1⟩:=a.thr x o e;b.thr x o1 e1,JM a.sz b.sz⟩
structure XN(n:Heap)(h:Heap)(e:xz!)(cls:xT!):Prop where
 new:n.get? e=none
 ex:∃oe vs,h.get? e=some oe/\oe.cls=cls/\oe.data=.fields vs/\vs[1]?=some .none
structure XF(n:Heap)(h:Heap)(e T:xz!)(cls fl:xT!):Prop where
 new:n.get? e=none
 ex:∃oe vs oT ts,h.get? e=some oe/\oe.cls=cls/\oe.data=.fields vs/\vs[1]?=some (.ref T)/\n.get? T=none/\T≠e/\h.get? T=some oT/\oT.data=.fields ts/\ts[3]?=some fl
section
variable{M:Model}{A:x8!}{E:Value->Shared->Prop}{s:z6!}{base:Heap}{env:Env}{outer:List Env}{L e:xz!}{n:Heap}{cls fl:xT!}{Q:Unit->Shared->Prop}
def c5p(hl:eh_)(hn:eh!)(he:n.get? e=none):e∉frA bk!:=λhm=>by obtain⟨o,q⟩:=hn e hm;rw[he]at q;cases q
def c5s{oe:Obj}{vs:I!}{X6:Bool}(du:fL!)(hl:eh_)(hf:fL_)(hn:eh!)(cg:fM!)
  (hne:n.get? e=none)(he:s.heap.get? e=some oe)(hc:oe.cls=cls)(hd:oe.data=.fields vs)(hsz:1<vs.size)
  (k:qs!):
  wpAny M A (do setField Y! 1 (<-EntryCells.newEntry UF (<-frameOf env) .none lm_ .none (<-entryPlaceOf L X6))) Q E s:=by
 have UG:=c5p (s:=s) hl hn hne;refine HM (wpAny_frameOf_fun du hl hf λJ so=>?_);refine HM (wpAny_entryPlaceOf λpl ax=>?_);unfold EntryCells.newEntry newFields;refine HM (KY ?_ (ax.sizeOk5 _ _ _ _ _));have e1:J.get? e=some oe:=(so.2.1 e UG).trans he;have eT:e<hT!:=IS e1;generalize hob:({cls:=.type "traceback",dict:=none,data:=.fields (qt!).toArray}:Obj)=ob;have UH:ob.data=.fields (qt!).toArray:=by rw[<-hob]
 have X7:ob.isFreed=false:=NI UH;have e2:(J.push ob).get? e=some oe:=HU _ e1;refine OT e2 hd hsz ?_;have d3:=MF hd qu!;have e3:=LF qw! e2 (NI d3);have b6:∀b o,b≠e->J.get? b=some o->(qv!).get? b=some o:=λb o hb eb=>by
  rw[JI _ _ eL!];exact HU _ eb
 have tT:(qv!).get? hT!=some ob:=by
  rw[JI _ _ (JF eT)];exact IK _ X7
 have s1:g!=hT!:=so.1.symm;refine k _ J.objs.size (by rw[s1];exact IN _) ⟨hne,_,_,ob,_,e3,(Obj.cls_mapFields _ _).trans hc,d3,by simp[hsz],cg _ a!,LO eT,tT,UH,?_⟩ ⟨λb o hb og eb=>?_,λb o hb eb=>?_,λb o eb=>?_,by rw[OE,NM,s1];exact LX _⟩ (hl.of_keeps λb o eb t9=>?_)
 .obtain rfl|⟨_,_,_,_,_,_,_,rfl⟩:=ax<;>simp
 .refine b6 b o fP! ?_;rw[so.2.1 b og];exact eb
 .show"!~";exact⟨sl,b6 b _ (λz=>UG (z▸hb)) ju⟩
 .show"!~";by_cases dw:b=e
  .subst dw;exact⟨_,e3⟩
  .exact⟨_,b6 b _ dw ju⟩
 .show"!~";exact⟨_,b6 b _ (λz=>by subst z;rw[he]at eb;cases eb;exact t9 _ hd) ju,rfl⟩
def a3l(du:fL!)(hl:eh_)(hf:fL_)(hn:eh!)(cg:fM!)(x:XN n s.heap e cls)
  (k:qs!):wpAny M A lp_ Q E s:=by
 obtain⟨hne,oe,vs,he,hc,hd,J⟩:=x;unfold noteFrame;simp only[hf];refine HM lq!;rw[IF (show¬((Value.none != Value.none)=true)by decide)];exact c5s du hl hf hn cg hne he hc hd (KU.mp J).1 k
variable{T:xz!}
def xL(du:fL!)(hl:eh_)(hf:fL_)(hn:eh!)(cg:fM!)(x:qy!)(X8:fl≠rawInt L)
  (k:∀h' T',g!<=T'->XF n h' e T' cls lm_->Kp [e,T] fM_ s.heap h'->h'.FunFrames base bk!->Q () {s with heap:=h'}):wpAny M A lp_ Q E s:=by
 obtain⟨hne,oe,vs,oT,ts,he,hc,hd,J,hT,qo,ht,j7,h3⟩:=x;unfold noteFrame;simp only[hf];refine HM lq!;rw[qy_];refine HM (KB ht j7 h3 ?_);rw[IF (show¬((fl==rawInt L)=true)by simpa using X8)];refine HM (OT ht j7 (KU.mp h3).1 ?_);have b6:∀b,b≠T->(hX!).get? b=s.heap.get? b:=λb hb=>JI _ _ eL!;have yb:T∉frA bk!:=c5p (s:=s) hl hn hT;have kp:Kp [e,T] fM_ s.heap hX!:=
  ⟨λb o hb _ eb=>by rw[b6 b fP!];exact eb,λb o hb eb=>qA_,λb o eb=>by
   by_cases hb:b=T
   .subst hb;exact⟨_,LF _ ht sS_⟩
   .exact⟨o,by rw[b6 b hb];exact eb⟩,OP (OE ..).symm⟩
 have lq:(hX!).FunFrames base bk!:=hl.of_keeps λb o eb t9=>⟨o,by
  rw[qB_];exact eb,rfl⟩
 have hz:(hX!).objs.size=g!:=OE ..;refine c5s (s:={s with heap:=s.heap.update T qA!}) du lq hf hn (by rw[hz];exact cg) hne ((qC!).trans he) hc hd (KU.mp J).1 λh' T' a0 a1 a2 a3=>k h' T' (by rw[<-hz];exact a0) a1 (kp.trans (a2.weak b_)) a3
def a1k{fo:aG_}{l:P_}(hl:s.heap.FunFrames base l)(hn:∀b∈frA l,∃o,n.get? b=some o)(x:qy!)
  (k:∀h',XF n h' e T cls qC_->Kp [T] (frA l) s.heap h'->h'.FunFrames base l->fG_=g!->Q () {s with heap:=h'}):wpAny M A (setFlight Y! fo) Q E s:=by
 obtain⟨hne,oe,vs,oT,ts,he,hc,hd,J,hT,qo,ht,j7,h3⟩:=x;have hsz:=(KU.mp h3).1;unfold setFlight;refine HM lq!;rw[qy_];have b6:∀b,b≠T->(s.heap.update T qD!).get? b=s.heap.get? b:=λb hb=>JI _ _ eL!;have yb:T∉frA l:=λhm=>by obtain⟨o,q⟩:=hn T hm;rw[hT]at q;cases q
 have self:=LF qD! ht sS_;refine OT ht j7 hsz (k _ ⟨hne,oe,vs,_,_,(qC!).trans he,hc,hd,J,hT,qo,self,MF j7 _,by simp[hsz]⟩
  ⟨λb o hb _ eb=>by rw[b6 b fP!];exact eb,λb o hb eb=>qA_,λb o eb=>by
   by_cases hb:b=T
   .subst hb;exact⟨_,self⟩
   .exact⟨o,by rw[b6 b hb,eb]⟩,OP (OE ..).symm⟩
  (hl.of_keeps λb o eb t9=>⟨o,by rw[qB_];exact eb,rfl⟩) (OE ..))
inductive Xq(n:Heap)(h:Heap)(e:xz!)(cls:xT!)(L:xz!):List Addr->Prop
 |new:XN n h e cls->Xq n h e cls L [e]
 |on {T:xz!}:XF n h e T cls .none->Xq n h e cls L [e,T]
def d1o{ak:I_}(du:fL!)(hl:eh_)(hf:fL_)(hn:eh!)(cg:fM!)(x:Xq n s.heap e cls L ak)
  (k:∀h' T,qE_->XF n h' e T cls .none->Kp ak fM_ s.heap h'->h'.FunFrames base bk!->Q () {s with heap:=h'}):wpAny M A (leaving env Y!) Q E s:=by
 have UI:∀{T:xz!},g!<=T->s.heap.get? T=none:=λ{T} hT=>by
  cases q:s.heap.get? T with
  |none=>rfl
  |some o=>exact absurd (IS q) (Nat.not_lt.mpr hT)
 unfold leaving;cases x with
 |new x=>
  refine HM (a3l du hl hf hn cg x λJ T a0 a1 a2 a3=>?_);show"!S"
 |on x=>
  refine HM (xL du hl hf hn cg x h1_ λJ T a0 a1 a2 a3=>?_);show"!S"
end
end XS
namespace XS
open PySem PySem.Spec PyProof.Rows L2
def Yz(base:Heap)(P:z7!)(w:yO!):Vk:=λouter H s E e s'=>∃(a T:xz!) (cls:xT!) (H':Hp),e=.ref a/\s'.os=s.os/\AllBare s'.gens/\Un (frs outer) [] H H' s.heap s'.heap/\Lr P w H' s'.heap/\
 XF s.heap s'.heap a T cls .none/\H' a=none/\H' T=none/\s'.heap.FunFrames base outer/\E cls none H'
def Lo(m n:Heap):Prop:=∀b,n.get? b=none->m.get? b=none
def In(n h:Heap):Prop:=∀b,bR!<=b->n.get? b=none
def Lo.in{n:Heap}(l:Lo n h):In n h:=λb z=>l b (Heap.get?_none_of_le z)
def Lo.of{h h':Heap}(k:∀b o,h.get? b=some o->∃o',h'.get? b=some o'):Lo h h':=λb z=>by
 cases y:h.get? b with
 |none=>rfl
 |some o=>obtain⟨o',e⟩:=k b o y;rw[z]at e;cases e
def XF.low{n:Heap}(x:XF n h e T cls fl)(l:Lo m n):XF m h e T cls fl:=by obtain⟨hne,oe,vs,oT,ts,he,hc,hd,J,hT,r⟩:=x;exact⟨l _ hne,oe,vs,oT,ts,he,hc,hd,J,l _ hT,r⟩
def Xq.ge{n:Heap}{ak:I_}(x:lx!):∀b∈ak,n.get? b=none:=by
 intro b hb;cases x with
 |new x=>simp at hb;subst hb;exact x.new
 |on x=>
  obtain⟨hne,oe,vs,oT,ts,he,hc,hd,J,hT,r⟩:=x;simp at hb;obtain rfl|rfl:=hb
  .exact hne
  .exact hT
structure Nw(X:Cx)(Y:k_)(n:Heap):Prop where
 s0:∀b o,b∉X.ex->X.s₀.heap.get? b=some o->∃o',n.get? b=some o'
 loc:∃o,n.get? X.env.locals=some o
 cel:∀x c,X.env.cells.lookup x=some c->∃o,n.get? c=some o
 pin:∀p∈X.pn++Y,∃o,n.get? p.1=some o
 frm:∀b∈frA X.stack,∃o,n.get? b=some o
def Eo.there{H:Hp}{h:Heap}{o:HO}(x:li_):∃u,h.get? a=some u:=by
 cases o with
 |lst xs=>obtain⟨_,_,_,_,e⟩:=x;exact bq_
 |tup xs=>obtain⟨_,_,_,_,e,_⟩:=x;exact bq_
 |dK h1=>obtain⟨_,_,_,_,o,_,_,e,_⟩:=x;exact bq_
 |dT h1=>obtain⟨_,_,_,_,o,_,_,e,_⟩:=x;exact bq_
 |set S n=>obtain⟨o,_,_,_,e,_⟩:=x;exact bq_
 |ins C dx fs=>obtain⟨_,_,_,e,_⟩:=x;exact bq_
 |own y=>obtain⟨_,e⟩:=x;exact bq_
 |xd fs=>obtain⟨_,⟨_,_,_,e,_⟩,_⟩:=x;exact bq_
 |rng lo hi=>obtain⟨_,_,_,e⟩:=x;exact bq_
 |frz ob u=>obtain⟨e,_⟩:=x;exact bq_
 |tbl ps=>exact⟨_,hQ!⟩
 |met f y=>exact⟨_,hQ!⟩
 |ext φ=>obtain⟨_,⟨_,e⟩,_⟩:=x;exact bq_
def Lr.none{H:Hp}{h:Heap}(x:a1_)(e:h.get? a=none):H a=none:=by
 cases q:H a with
 |none=>rfl
 |some u=>
  obtain⟨o,ho⟩:=Eo.there (x a u q);rw[e]at ho;cases ho
section
variable{X:Cx}{Y:List (Addr×Obj)}{Z:L2.St}{H H':Hp}{s:z6!}{h':Heap}{ak:List Addr}{n:Heap}
def Nw.here(I:d!):Nw X Y s.heap where
 s0:=λb o hx e=>I.base.there b o e hx
 loc:=by obtain⟨m,⟨o,_,_,ho,_⟩,_⟩:=I.loc;exact ly!
 cel:=λx c h=>by
  obtain⟨v,o,ho,_⟩:=I.cell x c h;exact ly!
 pin:=λp hp=>⟨_,(l5!).1⟩
 frm:=λb hb=>by
  obtain⟨_,o,ho,_⟩:=I.stack.mem hb;exact ly!
def c3s(I:d!):∀b∈frA X.stack,H b=none:=I.stkFree
def c0j{g':lu_}{t':Nat}{d':Drawn}(I:d!)(N:Nw X Y n)(u:Un h4_ ak H H' s.heap h')(hok:h1!)(hg:lw!)(hb:∀b∈ak,n.get? b=none):
  Inv X Y Z H' {s with heap:=h',gens:=g',drawn:=d',toks:=t'}:=by
 have nb:∀b∈ak,∀o,n.get? b≠some o:=λb h o z=>by rw[hb b h]at z;cases z
 have n0:∀b∈ak,b∈X.ex\/X.s₀.heap.get? b=nt!:=λb h=>by
  by_cases hx:b∈X.ex
  .exact .inl hx
  .refine .inr ?_;cases q:X.s₀.heap.get? b with
   |none=>rfl
   |some o=>obtain⟨o',e⟩:=N.s0 b o hx q;exact absurd e (nb b h o')
 have nl:∀b∈ak,b≠X.env.locals:=λb h z=>by subst z;obtain⟨o,e⟩:=N.loc;exact nb _ h o e
 have nc:∀b∈ak,∀x c,X.env.cells.lookup x=some c->c≠b:=λb h x c hc z=>by subst z;obtain⟨o,e⟩:=N.cel x c hc;exact nb _ h o e
 have np:∀b∈ak,∀p∈X.pn++Y,p.1≠b:=λb h p hp z=>by subst z;obtain⟨o,e⟩:=N.pin p hp;exact nb _ h o e
 have nf:∀b∈ak,b∉frs X.stack:=λb h z=>by obtain⟨o,e⟩:=N.frm b z;exact nb _ h o e
 have X9:∀b∈ak,b∉X.fs:=λb h z=>by
  refine nf b h ?_;obtain e|⟨e,ef⟩:=I.ok.stk
  .rw[e];exact z
  .rw[e];simp only[frs,OO,ef];exact HS _ z
 have ok:=I.ok
 let X':Cx:={X with ex:=X.ex++ak}
 have k1:∀b∈X.ex++ak,b≠X.env.locals/\∀x c,X.env.cells.lookup x=some c->c≠b:=λb gc=>by
  obtain q|q:=II.mp gc
  .exact ok.exf b q
  .exact⟨nl b q,nc b q⟩
 have k2:∀b o,X.base.get? b=some o->b∉X.ex++ak:=λb o e z=>by
  obtain q|q:=II.mp z
  .exact ok.noex b o e q
  .obtain r|r:=n0 b q
   .exact ok.noex b o e r
   .rw[(ok.bs b o e).1]at r;cases r
 have k3:∀b∈X.ex++ak,b∉X.fs:=λb gc=>by
  obtain q|q:=II.mp gc
  .exact ok.exfs b q
  .exact X9 b q
 have YA:X'.Ok:=⟨ok.mod,ok.kind,ok.glob,ok.blt,ii!,ok.inj,ok.has,ok.cab,ok.hd,ih!,ok.stk,k1,ok.bs,ok.bsz,k2,k3,ok.funs,ok.frf⟩;have I':Inv X' Y Z H s:=⟨YA,I.os,I.bare,I.base.mono (λ_ z=>z) (λ_ z=>IT _ z),I.loc,I.cell,I.free,I.freeC,I.pin,I.hok,I.len⟩;have J':=I'.call (g':=g') (t':=t') (d':=d') (ch:=ak) u hok hg λb h=>⟨.inl (HZ _ h),nl b h,nc b h,np b h⟩;have out:∀b o,X.s₀.heap.get? b=some o->b∉X.ex->b∉X.ex++ak:=λb o e hx z=>by
  obtain q|q:=II.mp z
  .exact hx q
  .obtain r|r:=n0 b q
   .exact hx r
   .rw[e]at r;cases r
 have B:=J'.base;exact⟨ok,J'.os,J'.bare,⟨λb o e m hf hx=>B.keep b o e m hf h4!,λb o e m hf hx=>B.slot b o e m hf h4!,λb o e m hx=>B.free b o e m h4!,λb o e hx=>B.there b o e h4!,B.tups,B.frzs,B.tbls⟩,
  J'.loc,J'.cell,J'.free,J'.freeC,J'.pin,J'.hok,J'.len⟩
def d0i(kp:lz_):Un h4_ ak H H s.heap h' where
 keep:=λb o e _ hf hb=>kp.old b o hb hf e
 slot:=λb o e _ hf _=>kp.frm b o hf e
 free:=λ_ _ _ n _=>n
 there:=λb o e _=>kp.thr b o e
 tups:=λ_ _ e=>e
 frzs:=λ_ _ _ e=>e
 tbls:=λb ps e=>lB_
def c8m(I:d!)(kp:lz_)(hb:∀b∈ak,H b=none):Lr X.prog X.w H h':=λb u e=>
 (lC!).stay (λd o hd eo=>by
  have mi:∃u,H d=some u:=by
   obtain rfl|hd:=hd
   .exact⟨u,e⟩
   .exact⟨_,hd⟩
  obtain⟨v,hv⟩:=mi;exact kp.old d o (λz=>by rw[hb d z]at hv;cases hv) (λz=>by rw[c3s I d z]at hv;cases hv) eo) fJ_ λ_ _ q=>q
def a1e(I:d!)(N:Nw X Y n)(kp:lz_)(hb:∀b∈ak,H b=none/\n.get? b=none):Inv X Y Z H {s with heap:=h'}:=
 c0j (g':=s.gens) (t':=s.toks) (d':=s.drawn) I N (d0i kp) (c8m I kp λb h=>(hb b h).1) I.bare λb h=>(hb b h).2
end
def c3v{h base:Heap}{outer:P_}(x:h.FunFrames base bk!):h.FunFrames base outer:=x.2.2
section
variable{P:z7!}{w:yO!}{K:zY!}{mg:Str->Option Value}{base:Heap}{N:List Str}{qual:Str}{scope:Scope}{f:xz!}{cd:xT!}{A:x8!}{outer:List Env}{s s1:z6!}{H H1:Hp}{E E':XK}{Y:List (Addr×Obj)}{Z:L2.St}{n:Heap}{e:xz!}{cls:xT!}{ak:List Addr}
def b8c(I:Inv h5! Y Z H1 s1)(Nn:Nw h5! Y n)(cg:In n s1.heap)
  (x:Xq n s1.heap e cls s.heap.objs.size ak)(hb:∀b∈ak,H1 b=none)(q:E cls none H1):
  (h5!).xe Y! s1:=by
 refine d1o (base:=base) (n:=n) I.ok.frames I.stack rfl Nn.frm cg x λh' T hT xf kp ff=>?_;have af:=a1e I Nn kp λb h=>qJ_;refine⟨e,T,cls,H1,rfl,af.os,af.bare,af.base,af.hok,xf.low (λb z=>?_),?_,?_,c3v ff,q⟩
 .cases y:s.heap.get? b with
  |none=>rfl
  |some o=>
   obtain⟨o',e'⟩:=Nn.s0 b o h1_ y;rw[z]at e';cases e'
 .cases x with
  |new _=>exact hb e b_
  |on _=>exact hb e b_
 .obtain h|h:=hT
  .exact hb T h
  .exact I.hok.fresh h
end
def GI:List Value:=[qK!,qK_,qL!,qM!]
structure DP(K:zY!)(N:xz!):Prop where
 mk::
 at_:∃c d es ep sl,K.lookup N=some ⟨c,d,.dict es ep,sl⟩/\(es.all λe=>match e.key with|.str _ _=>true|_=>false)=true
 no:W.nsIn K N "__init__"=some none
def AU(K:zY!)(C:xz!):Prop:=∃B N nm q bs hdct sn sub ab col dd k0 k1 k2 k3 k5 c0 d1 cd sl,K.lookup C=some (excClassObj nm q C N bs (.ref B::GI) hdct sn sub ab col dd k0 k1 k2 k3 k5 "ValueError.__new__")/\K.lookup B=some ⟨c0,d1,.cls cd,sl⟩/\DP K N/\DP K cd.ns
def c8r{K:zY!}{C N:xz!}{nm q YB q1:Str}{hdct YC YD:Bool}{sub:g_}{ab YE:Bool}{col YF:Option Bool}{dd d1 d2 d3:aG_}{k0 k1 k2 k3 k5:iK!}{sl s2 s3:bB_}{es UJ:br_}{ep qq:Nat}
  (la:K.lookup C=some (excClassObj nm q C N bs [.ref B,qK!,qK_,qL!,qM!] hdct sn sub ab col dd k0 k1 k2 k3 k5 "ValueError.__new__"))(lb:K.lookup B=some ⟨c0,d1,.cls {name:=YB,bases:=bs1,mro:=mro1,ns:=N1,qualname:=q1,hasDict:=YC,slotNames:=sn1,subclasses:=sub1,abstract:=YE,collection:=YF,hasDel:=YD},sl⟩)
  (lc:K.lookup N=some ⟨c2,d2,.dict es ep,s2⟩)(ld:(es.toList.all λe=>match e.key with|.str _ _=>true|_=>false)=true)(le:W.nsIn K N "__init__"=some none)(lf:K.lookup N1=some ⟨c3,d3,.dict UJ qq,s3⟩)(lg:(UJ.toList.all λe=>match e.key with|.str _ _=>true|_=>false)=true)(lh:W.nsIn K N1 "__init__"=some none):AU K C:=
 ⟨B,N,nm,q,bs,hdct,sn,sub,ab,col,dd,k0,k1,k2,k3,k5,c0,d1,_,sl,la,lb,⟨⟨_,_,_,_,_,lc,by rw[<-Array.all_toList];exact ld⟩,le⟩,⟨⟨_,_,_,_,_,lf,by rw[<-Array.all_toList];exact lg⟩,lh⟩⟩
def DP.ok{K:zY!}{N:xz!}(n:DP K N):W.nsOkIn K N=true:=by obtain⟨⟨c,d,es,ep,sl,e1,e2⟩,_⟩:=n;unfold W.nsOkIn;rw[e1];exact e2
def c8q{K:zY!}{C:xz!}{h:Heap}(X:dZ!)(q:AU K C):∃bm N nm q bs hdct sn sub ab col dd k0 k1 k2 k3 k5 mN,h.get? C=some (excClassObj nm q C N bs bm hdct sn sub ab col dd k0 k1 k2 k3 k5 "ValueError.__new__")/\h.Ns N mN/\mN "__init__"=none/\OwnTail h GI bm:=by obtain⟨B,N,nm,q,bs,hdct,sn,sub,ab,col,dd,k0,k1,k2,k3,k5,c0,d1,cd,sl,l1,l2,n1,n2⟩:=q;exact⟨_,N,nm,q,bs,hdct,sn,sub,ab,col,dd,k0,k1,k2,k3,k5,_,X _ _ l1,.of_isNs (W.isNs_of_in X n1.ok),W.nsMap_none_of_in X n1.ok n1.no,.own (X _ _ l2) (.of_isNs (W.isNs_of_in X n2.ok)) (W.nsMap_none_of_in X n2.ok n2.no) .base⟩
section
variable{X:Cx}{Y:List (Addr×Obj)}{Z:L2.St}{H:Hp}{s:z6!}{h':Heap}{e C:xz!}{cls:xT!}{args:List Value}
def made(I:d!)(m:Heap.MadeExcOf s.heap h' e cls args):Inv X Y Z H {s with heap:=h'}/\XN s.heap h' e cls/\H e=none:=by refine⟨I.un (t':=s.toks) (Un.kept m.keeps) (I.hok.kept m.keeps),⟨m.new,?_⟩,Lr.none I.hok m.new⟩;obtain⟨t,ht,_⟩:=m.there;exact⟨_,_,ht,rfl,rfl,rfl⟩
def b5u{x:Str}{te:TE}{R:ia!}(hC:AU X.K C)(hh:ei_=none)(hg:J!)(hm:gh_)(he:PE X ex te)
  (hR:∀(Y:k_) (Z:L2.St) (H:Hp) (s:z6!) (h':Heap) (e:xz!) (n:Heap),Inv X Y Z H {s with heap:=h'}->Nw X Y n->In n h'->XN n h' e W!->H e=none->R W! H->X.xe Y! {s with heap:=h'})
  (a8:y_:=by decide)(hst:qT_:=by rfl):
  PS X qV! qV_:=by
 intro Y s Z H D I h;obtain⟨bm,N,nm,q,bs,hdct,sn,sub,ab,col,dd,k0,k1,k2,k3,k5,mN,c1,c2,YG,c3⟩:=c8q I.ok.mod.kin hC;refine wpAny_Raise_call_subU (C:=C) (mN:=mN) (nm:=nm) (q:=q) (N:=N) (bs:=bs) (bm:=bm) (hdct:=hdct) (sn:=sn) (sub:=sub) (ab:=ab) (col:=col) (dd:=dd) (k0:=k0) (k1:=k1) (k2:=k2) (k3:=k3) (k5:=k5) PySem.F.excBase_ValueError c! PySem.F.excBase_ValueError (c3.hasType c!) hh (by rw[hst];rfl) YG (iB I hg hm n! a8);rw[hst];show wpAny _ _ (evalArgs W! true qT! []) _ _ _;refine NP (LL (cX ch_ λu s1 ⟨v,H1,I1,r1,q1⟩=>?_));refine NR ?_;refine⟨rfl,by simp[sizeLine],I1.bk _ _ c1,c2.keeps I1.bk,c3.keeps I1.bk,λh' e m=>?_⟩;obtain⟨af,xn,hn⟩:=made I1 m;exact hR Y Z H1 s1 h' e s1.heap af (Nw.here I1) (Lo.of λb o y=>⟨o,m.keeps b o y⟩).in xn hn q1
end
def Xq.at{n:Heap}{e L:xz!}{cls:xT!}{ak:I_}(x:lx!):Xq n h e cls L' ak:=by
 cases x with
 |new x=>exact .new x
 |on x=>exact .on x
def Xq.mem{n:Heap}{e L:xz!}{cls:xT!}{ak:I_}(x:lx!):e∈ak:=by cases x<;>simp
section
variable{M:Model}{A:x8!}{E:Value->Shared->Prop}{s:z6!}{base:Heap}{env:Env}{outer:List Env}{L e:xz!}{n:Heap}{cls fl:xT!}{Q:Unit->Shared->Prop}{ak:List Addr}
def d2t(du:fL!)(hl:eh_)(hf:fL_)(hn:eh!)(cg:fM!)(x:Xq n s.heap e cls L0 ak)
  (k:∀h' T fl,qE_->XF n h' e T cls fl->Kp ak fM_ s.heap h'->h'.FunFrames base bk!->Q () {s with heap:=h'}):wpAny M A lp_ Q E s:=by
 cases x with
 |new x=>exact a3l du hl hf hn cg x λJ T a0 a1 a2 a3=>k J T _ h2! a1 a2 a3
 |on x=>exact xL du hl hf hn cg x h1_ λJ T a0 a1 a2 a3=>k J T _ h2! a1 a2 a3
end
def Lv(X:Cx)(R:ia!):Prop:=∀(Y:k_) (Z:L2.St) (H:Hp) (s:z6!) (n:Heap) (a:xz!) (cls:xT!) (ak:I_),Inv X Y Z H s->Nw X Y n->In n s.heap->Xq n s.heap a cls 0 ak->(∀b∈ak,H b=none)->R cls H->X.xe F! s
def d1l{K:zY!}{mg:x!}{base:Heap}{A:x8!}{outer:P_}{s:z6!}{H:Hp}{E:XK}:
  Lv h5! λcls H'=>E cls none H':=λY Z H1 s1 n a cls ak I Nn i x hb q=>b8c I Nn i x.at hb q
def c2d{X:Cx}{R:ia!}{E':XK}(hX:Lv X R)(hE:∀cls H',E' cls none H'->R cls H'):Lq (Yz X.base X.prog X.w) X E':=by
 intro Y Z H s e s' I h;obtain⟨a,T,cls,H',rfl,os,bare,un,hok,xf,ha,hT,ff,q⟩:=h;obtain⟨hh,g,d,t,wb⟩:=s';obtain rfl:wb=s.os:=os;have af:=I.call (h':=hh) (g':=g) (d':=d) (t':=t) (ch:=[]) un hok bare s5_;refine hX Y Z H' _ s.heap a cls _ af (Nw.here I) (Lo.of λb o y=>un.there b o y b_).in (.on xf) h5_ (hE _ _ q);simp at hb;obtain rfl|rfl:=hb
 .exact ha
 .exact hT
def b2h{X:Cx}{x:Str}{te:TE}{R:ia!}(hX:Lv X R)(hC:AU X.K C)(hh:ei_=none)(hg:J!)(hm:gh_)(he:PE X ex te)
  (a8:y_:=by decide)(hst:qT_:=by rfl):
  PS X qV! qV_:=
 b5u hC hh hg hm he (λY Z H s h' e n I N i x hn q=>hX Y Z H _ n e _ _ I N i (.new x) (λb hb=>by simp at hb;subst hb;exact hn) q) a8 hst
end XS
namespace XS
open PySem PySem.Spec PyProof.Rows PySem.W L2
abbrev Za(X:Cx)(pn:k_)(f:l_):Cx:={X with pn:=pn,xe:=f}
abbrev To(X:Cx)(e:xz!)(pn:k_):Cx:={X with A:=X.A.mark (some Y!),calm:=false,pn:=pn,xe:=λ_ _=>False}
section
variable{X:Cx}{Y ph pn:List (Addr×Obj)}{Z ac:L2.St}{H:Hp}{s:z6!}{f:Value->Shared->Prop}{e a:xz!}{oe:Obj}
def vC{gq:Cx}(I:d!)(ok:gq.Ok)(hY:gq={X with A:=gq.A,calm:=gq.calm,pn:=gq.pn,xe:=gq.xe})(hp:∀p∈gq.pn++ph,s.heap.get? p.1=some p.2/\H p.1=none/\p.1≠X.env.locals/\p.1∉X.fs/\∀v,p.2.data≠.cell v)
  (hl:ac.length=ej!)(hs:∀(i:Nat) (v:V),ac[i]?=some a2!->Z[i]?=some a2!):Inv gq ph ac H s:=by
 obtain⟨m,hn,h⟩:=I.loc;have:=I.len;rw[hY];exact⟨hY▸ok,I.os,I.bare,I.base,⟨m,hn,λi x v e1 e2 e3=>h i x v e1 (hs i v e2) e3⟩,I.cell,I.free,I.freeC,hp,I.hok,hl.trans I.len⟩
def d2q(ok:X.Ok):(ek!).Ok:=ih_
def c7i(ok:(ek!).Ok):X.Ok:=ih_
def d1c(ok:X.Ok):(To X e pn).Ok:=⟨ok.mod,ok.kind,ok.glob,ok.blt,ii!,ok.inj,ok.has,ok.cab,λz=>Bool.noConfusion z,ih!,ok.stk,ok.exf,ok.bs,ok.bsz,ok.noex,ok.exfs,ok.funs,ok.frf⟩
def d2r(ok:(To X e pn).Ok)(hd:X.calm=true->ei_=none):X.Ok:=⟨ok.mod,ok.kind,ok.glob,ok.blt,ii!,ok.inj,ok.has,ok.cab,hd,ih!,ok.stk,ok.exf,ok.bs,ok.bsz,ok.noex,ok.exfs,ok.funs,ok.frf⟩
def b3o{h':Heap}{t:Nat}{m':x!}(I:d!)(pi:h'.Ns X.env.locals m')(hs:Heap.SameBut X.env.locals s.heap h')
  (hl:∀(j:Nat) (y:Str) (v:V),X.N[j]?=some y->ac[j]?=some a2!->Vu X.env.scope y->∃u,Bl v u/\CN X.env h' m' y u)(len:ac.length=lt!):Inv X Y ac H {s with heap:=h',toks:=t}:=by
 have ne:∀b o,X.s₀.heap.get? b=some o->b≠X.env.locals:=λb o e=>JF lv!;refine⟨I.ok,I.os,I.bare,⟨λb o e n hb hx=>(lH!).trans h3!,fS!,I.base.free,lx_,I.base.tups,I.base.frzs,I.base.tbls⟩,⟨_,pi,hl⟩,λy c e=>?_,I.free,I.freeC,cL_,λb ob e=>?_,len⟩
 .show"!=";exact⟨sl,(lH!).trans e1⟩
 .show"!9";exact⟨o',(lH!).trans e1⟩
 .obtain⟨w',z⟩:=I.cell y c e;exact⟨w',z.sameBut hs (I.cne y c e)⟩
 .show"!L";exact qW_
 .refine(qQ_).stay qR! fJ_ λ_ _ q=>q;rintro rfl;obtain rfl|hc:=hc
  .rw[I.free]at e;cases e
  .rw[I.free]at hc;cases hc
end
structure Ym(K:zY!)(C0:xz!):Prop where
 tup:W.instIn K aL! be_=some false
 cls:∃cd,W.clsIn K C0=some cd
 exc:W.subIn K aL! qX!=some true
def c9o{K:zY!}{cd:ClassData}(ta:W.instIn K aL! be_=some false)(tb:W.clsIn K C0=some cd)(tc:W.subIn K aL! qX!=some true):Ym K C0:=⟨ta,⟨_,tb⟩,tc⟩
def a7r{M:Model}{E:l_}{K:zY!}{a:xz!}{oe:Obj}{s:z6!}{Q:df!}(X:f6_)(C:Ym K C0)(he:s.heap.get? a=some oe)(hc:oe.cls=.ref c)(hs:W.subIn K cd! aL!=some true)
  (h:Q true s):wpAny M A (excMatches F! aL!) Q E s:=by
 obtain⟨hh,g,d,tk,os⟩:=s;obtain⟨J,h2,h3⟩:=C;have L1:=W.looks_instIn (M:=M) X J;have L2:=W.looks_subIn (M:=M) X h3;have L3:=W.looks_subIn (M:=M) X hs;have Lt:Looks M hh (isType aL!) true:=by
  obtain⟨cd,h2⟩:=h2;unfold W.clsIn at h2;split at h2
  .rename_i ho;intro A' Q' E' s' k q;unfold isType loadHead;exact HM (SC (k _ _ (X _ _ ho)) (HP q))
  .cases h2
 have Le:Looks M hh (isExcClass aL!) true:=Lt.andThen L2;have Ly:Looks M hh (typeOf F!) cd!:=λA' Q' E' s' k q=>HM qY!;unfold excMatches;refine HM (L1.at ?_);rw[IF c!];show"#(";rw[MO];refine HM (HM (HM (Le.at ?_)));simp only[MC,JB,JT];refine HP ?_;dsimp only;rw[PH];refine HP (HM (Ly.at ?_));rw[MO];refine HM (HM (HM (L3.at ?_)));simp only[KA];exact HP kk_
structure AD(X:Cx)(xC en xn:Str)(C0 L:xz!)(ie ix:Nat):Prop where
 hst:X.stack=X.env::X.outer
 hf:X.env.frame=some L
 hcalm:X.calm=true->ei_=none
 hN:aT_
 hie:X.N[ie]?=some en
 hix:X.N[ix]?=some xn
 hne:en≠xn
 hke:X.env.scope.names.lookup en=some .local
 hkx:X.env.scope.names.lookup xn=some .local
 hg:Gl X xC
 hm:X.mg xC=some aL!
 C:Ym X.K C0
def Qh(n ix:Nat)(v:V):L2.St:=(q1!).set ix a2!
section
variable{X:Cx}{Y:List (Addr×Obj)}{D:Sj}{xC en xn:Str}{cp xp ap hp:Pos}{he:Expr}{C0 L:xz!}{ie ix:Nat}{hv:Addr->Option V}
nonrec def xT(X:Cx)(Y:k_)(D:Sj)(h0:ExceptHandler):Value->Shared->Prop:=λe al=>wpAny e! X.A (noteFrame e X.env) (λ_ ao=>wpAny e! X.A (setFlight e none) (λ_ c8=>wpAny e! X.A (handleBy e X.env [h0]) lJ! X.xe c8) X.xe ao) X.xe al
def c7u(tc:lK!)
  (ua:q3_)
  (fh:lL!)(a8:fT!):
  Lv q5_ λcls H'=>∃c v,cls=.ref c/\subIn X.K cd! aL!=some true/\hv c=some v/\D.nx lM_ H':=by
 obtain⟨hst,hf,hcalm,hN,hie,hix,hne,hke,hkx,hg,hm,C⟩:=tc;intro ph ac H' s' n a cls ak I Nn i x hb q;obtain⟨c,v,rfl,TN,YH,hD⟩:=q;have du:X.A.frames=some ic!:=by rw[<-hst];exact I.ok.frames
 have cg:∀b∈frA ic!,∃o,n.get? b=some o:=by rw[<-hst];exact Nn.frm
 have hl:s'.heap.FunFrames X.base ic!:=by rw[<-hst];exact I.stack
 refine d2t du hl hf cg i x λJ T fl a0 a1 a2 a3=>?_;have YI:H' T=none:=by
  obtain z|z:=a0
  .exact hb T z
  .exact I.hok.fresh z
 have YJ:n.get? T=none:=let⟨_,_,_,_,_,_,_,_,_,z,_⟩:=a1;z;rw[<-hst]at a2;have J1:=a1e I Nn a2 λb h=>qJ_;have tk:∀b∈[T],H' b=none/\n.get? b=none:=λb h=>by simp at h;subst h;exact⟨YI,YJ⟩
 refine a1k (s:={s' with heap:=J}) (fo:=none) a3 cg a1 λh2 b1 b2 b3 b4=>?_;rw[<-hst]at b2;have J2:=a1e J1 Nn b2 tk;refine wpAny_handleBy_cons (codeAny_handlers_test ?_) (by intro q;cases q);have I2:Inv (To X a bF_) [] ac H' {s' with heap:=h2}:=vC (ok:=d1c (c7i J2.ok)) J2 rfl (λp hp=>J2.pin p (IT _ lN_)) rfl λ_ _ z=>z;refine iB (X:=To X a bF_) I2 hg hm ?_ a8;obtain⟨fq,oe2,SV,oT2,ts2,e2,c2,d2,r2⟩:=id b1;refine a7r I2.kIn C e2 c2 TN ?_;dsimp only;refine codeAny_handlers_suite_as ?_;refine a1k (s:={s' with heap:=h2}) (fo:=none) b3 cg b1 λh3 YK UK c3 c4=>?_;rw[<-hst]at UK;have J3:=a1e J2 Nn UK tk;obtain⟨_,oe,vs3,oT3,ts3,e3,YL,d3,r3⟩:=YK;have xv:H' a=none:=hb _ x.mem;have oj:a≠X.env.locals:=λz=>by subst z;obtain⟨o,w⟩:=Nn.loc;rw[show n.get? X.env.locals=some o from w]at fq;cases fq
 have YM:a∉X.fs:=λz=>by
  obtain⟨o,w⟩:=cg a (by
   show a∈List.filterMap _ ic!;rw[OO,hf];exact HS _ z)
  rw[fq]at w;cases w
 have I3:Inv (To X a fU!) [] ac H' {s' with heap:=h3}:=vC (ok:=d1c (c7i J3.ok)) J3 rfl (λp hp=>by
  rw[JH]at hp;obtain hp|hp:=II.mp hp
  .exact J3.pin p ix_
  .simp at hp;subst hp;exact⟨e3,xv,oj,YM,λv z=>by rw[d3]at z;cases z⟩) rfl λ_ _ z=>z
 refine nT (X:=To X a fU!) (v:=bA!) I3 hN hie (.inl hke) rfl (λs4 I4=>?_) (.inr hke);have YN:lO_[ie]?=some jR_:=JQ (by rw[I3.len];exact(IJ.mp hie).1);have P:=gY (tY (X:=To X a fU!) (pos:=ap) (pos':=xp) hN hix (.inl hkx) (ua a fU! oe c b_ YL) fh (.inr hkx));refine KS (P [] s4 _ H' {nx:=λYO H5=>YO=(lO_).set ix a2!/\H5=H',rt:=λ_ _=>False} I4 ⟨YN,v,YH,rfl,rfl⟩) (λf s5 z=>?_) λ_ _ z=>z.elim;cases f<;>first|(obtain⟨_,_,_,z⟩:=z;exact z.elim)|(obtain⟨_,_,_,_,_,z⟩:=z;exact z.elim)|skip
 obtain⟨_,_,I5,rfl,rfl⟩:=z;dsimp only;obtain⟨m,hn,YQ⟩:=id I5.loc;have YR:ix<((lO_).set ix a2!).length:=by rw[I5.len];exact(IJ.mp hix).1
 refine wpAny_nameGoes_keeps hke hn (by rw[show X.env.scope.kind=.function from I5.ok.kind];rfl) λh6 w YS UL=>?_;have I6:Inv (To X a fU!) [] lM_ _ {s5 with heap:=h6,toks:=s5.toks+1}:=b3o I5 YS UL (λj y u e1 e2 e3=>by
  have hj:j=ix:=by
   by_cases z:j=ix
   .exact z
   .unfold Qh at e2;rw[JG (JE z),MB]at e2;split at e2<;>cases e2
  subst hj;rw[show X.N[j]?=some xn from hix]at e1;cases e1;unfold Qh at e2;rw[JQ (by rw[NA];exact(IJ.mp hix).1)]at e2;cases e2;obtain⟨u',r',lk⟩:=YQ j _ _ hix (JQ (by simpa using YR)) e3;refine lE!;obtain⟨k,e⟩|⟨k,c,e,z⟩:=lk
  .exact .inl ⟨k,by simp[JE hne,e]⟩
  .exact .inr ⟨k,c,e,z.sameBut UL (I5.cne _ c e)⟩) (by unfold Qh;simp)
 exact⟨_,_,vC (ok:=d2r I6.ok hcalm) I6 rfl (λp hp=>I6.pin p (by simp only[JH];exact IT _ hp)) rfl λ_ _ z=>z,hD⟩
def c6r{body:by!}{t:(Value->Hp->Prop)->TS}(tc:lK!)
  (ua:q3_)
  (hb:∀pn f R,Lv ek! R->Ox ek! body (t R))
  (fh:lL!:=by rfl)(a8:fT!:=by decide):
  PS X rb_ λD Z H=>t (λcls H'=>∃c v,cls=.ref c/\subIn X.K cd! aL!=some true/\hv c=some v/\D.nx lM_ H') D Z H:=by
 intro Y s Z H D I h;have lv:=c7u (cp:=cp) (hp:=hp) (Y:=Y) (D:=D) tc ua fh a8;refine wpAny_Try_except (KS (hb _ _ _ lv [] s Z H D (vC (ok:=d2q I.ok) I rfl (λp hp=>I.pin p lN_) rfl λ_ _ z=>z) h) (λf s1 z=>?_) λe s1 z=>z);have vd:∀{bw H1},Inv q5_ [] bw H1 s1->Inv X Y bw H1 s1:=λaf=>vC (ok:=c7i af.ok) af rfl (λp hp=>af.pin p lN_) rfl λ_ _ z=>z;cases f with
 |next=>obtain⟨bw,H1,af,q⟩:=z;exact QI lR_
 |brk=>obtain⟨bw,H1,af,q⟩:=z;exact lR_
 |cont=>obtain⟨bw,H1,af,q⟩:=z;exact lR_
 |ret u=>obtain⟨v,bw,H1,af,r,q⟩:=z;exact⟨v,bw,H1,vd af,r,q⟩
end
end XS
namespace DL
open PySem PySem.Spec PyProof.Rows L2 XS
abbrev EK:=Addr->Mh->Prop
abbrev Xa:=List D->Mh->o3_->EK->Prop
def XR(P:z7!)(w:yO!)(K:zY!)(M0:Mh)(G0 F0:Hp)(E:EK):Value->Hp->Prop:=λcls H'=>∃c M' G',cls=.ref c/\E c M'/\XM M0 G0 F0 M' G' H'/\MR P w K M' G' H'
def FU(P:z7!)(w:yO!)(K:zY!)(n:Nat)(g:Xa):Sp:=λvs H Q E=>a4_=n/\∃G ds M R EM,Ba G H/\MR P w K M G H/\Al K G ds vs/\g ds M R EM/\(∀d M' v G' H',R d M'->XM M G H M' G' H'->MR P w K M' G' H'->Aq K G' d v->Q v H')/\∀cls H',XR P w K M G H EM cls H'->E cls none H'
def AT(P:z7!)(w:yO!)(K:zY!)(mg:x!)(base:Heap)(k:Nat)(x:Str)(ps:o!)(g:Xa):Prop:=
 ∃ag fd,Fk P w K mg base lA_ k ag fd ps (FU P w K ps.length g)/\Ex K fd ps []/\mg x=some be!/\W.keepIn K be!=true
section
variable{P:z7!}{w:yO!}{K:zY!}{mg:Str->Option Value}{base:Heap}{k:Nat}{x:Str}{N ps:List Str}{st:Stmt}
def zV{ae:k!}{q:EK->WS}(d:oM_)(S:c5!)
  (hb:∀{ag:xz!} {ah:xT!} {A:x8!} {outer:P_} {s:z6!} {H:Hp} {E:XK} {M0:Mh} {G0 F0:Hp} {EM:EK},Ak k kd_->Lv re! (XR P w K M0 G0 F0 EM)->
   Ox re! bs! (AM P w K M0 G0 F0 [] ae (q EM))):
  AT P w K mg base M_ x ps λds M R E=>Ci N ps.length (q E) ds M R:=by
 obtain⟨ag,fd,F,B,m⟩:=d;refine⟨ag,fd,?_,B,m,F.kp⟩;show"!@";refine c5q lk bv S wR_ λA outer s H vs Q E hr h=>?_;obtain⟨hl,G,ds,M,R,EM,sub,m,r,e,kk,ke⟩:=h;refine⟨_,hb (M0:=M) (G0:=G) (F0:=H) (EM:=EM) hr λY Z H1 s1 n a cls ak I Nn i y z q=>d1l Y Z H1 s1 n a cls ak I Nn i y z (ke cls H1 q),?_⟩;have er:=tG (N:=N) sub r;exact z2_
end
section
variable{X:Cx}{own bc f9:List Nat}{st:Stmt}{rest body b1 b2:List Stmt}{e c:Expr}{es:List Expr}{pos p2:Pos}{f:WE}{fs:WA}{ft:WT}{q1 q2:WS}{M0:Mh}{G0 F0:Hp}{E:EK}
abbrev TX(X:Cx)(M0:Mh)(G0 F0:Hp)(own ae:k!)(q:WS):TS:=AM X.prog X.w X.K M0 G0 F0 own ae q
def d2v(h:pu!):PS X st ie_:=h.ok M0 G0 F0
def c2s(h:Tz X.nox own bc rest q1):Ox X rest ie_:=Ox.nox (h.ok M0 G0 F0)
def sI(J:PS X st ie_)(h2:Ox X rest (TX X M0 G0 F0 bc f9 q2)):Ox X ij_ (TX X M0 G0 F0 own f9 (Ah q1 q2)):=λY s Z H D I ⟨G,ρ,M,R,sr,e,k1,k2⟩=>
 tX J h2 Y s Z H D I zz!
def c5h(hc:ku_)(J:Ox X b1 ie_)(h2:Ox X b2 (TX X M0 G0 F0 own bc q2)):PS X od! (TX X M0 G0 F0 own bc (As ft q1 q2)):=λY s Z H D I ⟨G,ρ,M,R,sr,e,k1,k2⟩=>by
 refine b5v hc.ok J h2 Y s Z H D I zC!;cases b with
 |true=>exact kD kK_
 |false=>exact kW kK_
def Pi(C:xz!)(E:EK)(f:WE):WS:=λρ M _=>f ρ M λ_ M1=>E C M1
def a3p{x:Str}(hX:Lv X lT!)(hC:AU X.K C)(hh:ei_=none)(hg:J!)(hm:gh_)(he:bu_)
  (a8:y_:=by decide)(hst:starEach [e] X.env=[dE_]:=by rfl):
  PS X (.Raise (some (.Call (.Name x np) [e] [] ai)) none pos) (TX X M0 G0 F0 own bc (Pi C E f)):=λY s Z H D I ⟨G,ρ,M,R,sr,e',k1,k2⟩=>
 b2h hX hC hh hg hm he.ok a8 hst Y s Z H D I ⟨G,ρ,M,_,sr.st,e',λd M' v G' H' r x m q=>⟨C,M',G',rfl,r,sr.x.trans x sr.st.mr,m⟩⟩
def Sq(P:z7!)(w:yO!)(K:zY!)(M0:Mh)(G0 F0:Hp)(own:k!)(f:WE):TE:=λZ H Q=>∃G ρ M R,Iq P w K own M0 G0 F0 M G H Z ρ/\f ρ M R/\∀d M' v G' H',R d M'->XM M G H M' G' H'->MR P w K M' G' H'->Aq K G' d v->Q v H'
def Gb(n:Nat)(g:Xa)(E:EK)(fs:WA):WE:=λρ M R=>fs ρ M λds M1=>f_=n/\g ds M1 R E
def oR{k:Nat}{ps:o!}{g:Xa}{x:Str}(hX:Lv X lT!)(F:AT X.prog X.w X.K X.mg X.base k x ps g)(hr:bn_)(hg:J!)(ha:d5!)
  (a8:y_:=by decide)(he:ag!:=by rfl)(ax:aF!:=by rfl):
  PE X a9_ (Sq X.prog X.w X.K M0 G0 F0 own (Gb ps.length g E fs)):=by
 show"#%";show"!^";refine zQ J hr hg h3 h4 h2 .nil (c2d (E':=λcls _ H'=>XR X.prog X.w X.K M0 G0 F0 E cls H') hX λ_ _ z=>z) ha.ok a8 he ax Y s Z H Q I ⟨G,ρ,M,_,sr.st,e',zV!⟩;show FU X.prog X.w X.K ps.length g (vs++[]) H1 Q _;rw[JH];refine⟨zV_,G1,ds,M1,R,E,x1.sub,m1,q1,r1.2,o7!,λcls H' ⟨c,M',G',h5,h6,h7,h8⟩=>?_⟩;exact⟨c,M',G',h5,h6,(sr.x.trans x1 sr.st.mr).trans h7 m1,h8⟩
def b7g{i:Nat}{x:Str}(hN:aT_)(hi:aa_)(hx:a2_)(h:lU_)(bt:aP!:=by decide)(hs:oc_:=by rfl)
  (hf:X.fn x=true\/X.env.scope.names.lookup x=some .local:=by first|exact .inl rfl|exact .inr rfl|assumption):PS X (.Assign [.Name x p2] e pos) (TX X M0 G0 F0 own own (Am i f)):=λY s Z H D I ⟨G,ρ,M,R,sr,e',k1,k2⟩=>
 tY hN hi hx h hs hf Y s Z H D I ⟨G,ρ,M,_,sr,e',zB_⟩
def c2u(h:lU_)(hs:lW!:=by rfl):PS X lW_ (TX X M0 G0 F0 own own (Bq f)):=λY s Z H D I ⟨G,ρ,M,R,sr,e',k1,k2⟩=>
 oE h hs Y s Z H D I ⟨G,ρ,M,_,sr,e',zD_⟩
def Wa(n ix:Nat)(hv:rg_)(q:EK->WS):WS:=λρ M R=>q (λc M1=>Fc (hv c) λd=>R (.nx ((q1!).set ix cr_)) M1) ρ M R
def b7l{xC en xn:Str}{ap:Pos}{ie ix:Nat}{hv:rg_}{hw:Addr->Option V}{q:EK->WS}(tc:lK!)
  (ua:∀a pn oe c,eW!∈pn->oe.cls=.ref c->PE ib_ he λZ H Q=>Z[ie]?=some he_/\∃v,hw c=some v/\Q v H)
  (hvw:∀c d,hv c=some d->W.subIn X.K cd! aL!=some true/\∃v,hw c=some v/\∀G,Aq X.K G d v)
  (hb:∀pn f M0 G0 F0 E,Lv ek! lT!->Ox ek! body (TX X M0 G0 F0 [] [] (q E)))
  (fh:lL!:=by rfl)(a8:fT!:=by decide):
  MS X [] [] rb_ (Wa X.N.length ix hv q):=⟨λM0 G0 F0 Y s Z H D I ⟨G,ρ,M,R,sr,e,k1,k2⟩=>by
 refine c6r (hv:=hw) (t:=λRR D Z H=>∃E,(∀cls H',XR X.prog X.w X.K M0 G0 F0 E cls H'->RR cls H')/\TX X M0 G0 F0 [] [] (q E) D Z H) tc ua
  (λpn f RR lv Y s Z H D I ⟨E,hE,h⟩=>hb pn f M0 G0 F0 E (λp1 p2 p3 p4 p5 p6 p7 p8 p9 YT YU YV YW z=>lv p1 p2 p3 p4 p5 p6 p7 p8 p9 YT YU YV YW (hE _ _ z)) Y s Z H D I h) fh a8 Y s Z H D I ⟨_,?_,G,ρ,M,R,sr,e,k1,k2⟩
 rintro cls H' ⟨c,M',G',rfl,e',x,m⟩;obtain⟨d,hd,hR⟩:=cR e';obtain⟨hs,v,v7,rep⟩:=hvw c d hd;refine⟨c,v,rfl,hs,v7,k1 _ M' G' _ H' hR ⟨⟨⟨x.sub,by unfold Qh;simp,λj d' q _=>?_,ii_,ii_⟩,m,ii_⟩,x,ii_⟩⟩;have hl:ix<lt!:=(IJ.mp tc.hix).1;by_cases hj:j=ix
 .subst hj;rw[JQ lV_]at q;cases q;exact⟨v,JQ lV_,rep G'⟩
 .rw[lD_,MB]at q;split at q<;>cases q⟩
end
section
variable{X:Cx}{own:List Nat}{pos p1 p2 p3:Pos}
def b4b:Ir X jH_ λxs H Q=>∃a C1 oe,xs=[bA!,.ref C1]/\eW!∈X.pn/\oe.cls=.ref C1/\Q B! H:=by intro Y s Z H xs us Q I r h;obtain⟨a,C1,oe,rfl,hp,hc,q⟩:=h;obtain⟨u,w',rfl,r1,r2⟩:=wS r;cases (show u=Value.ref a from r1);cases (show w'=Value.ref C1 from r2);have he:=(I.pin _ ix_).1;exact W.isi_call I.kIn (λM A' Q' E' s' k q=>HM qY!) (by simp[W.isIn]) dS_ ⟨eo!,H,I,rfl,q⟩
def GF(C1:xz!)(c:xz!):Option D:=if c=C1 then some B! else none
def DF(C1:xz!)(c:xz!):Option V:=if c=C1 then some B! else none
def c2b{en xC:Str}{ie:Nat}(hN:ri!)(hk:X.env.scope.names.lookup en=some .local)(hg:n2!)(hm:n2_)(hv:n3!)(mz:Gl X xC)(kz:ri_)
  (hd:fT!:=by decide)(yc:rj_:=by decide)(yd:rk!:=by decide)
  (he:rl!:=by rfl)(ir:rl_:=by rfl)
  (ax:(backTo pos rm!).any c_=false:=by rfl):
  ∀a pn oe c,eW!∈pn->oe.cls=.ref c->PE ib_ (.Call rn! lX! [] pos) λZ H Q=>Z[ie]?=some he_/\∃v,DF C1 c=some v/\Q v H:=λa pn oe c hp hc Y s Z H Q I ⟨e1,v,e2,q⟩=>by
 unfold DF at e2;split at e2
 .rename_i h;subst h;cases e2;exact oH (X:=in!) b4b hg hm hv (dA (jX (X:=in!) hN lF_ yc yd) (dA (b0c (X:=in!) (v:=V.ref c) mz kz rfl hd) fP ir) he) c! c! he ax Y s Z H Q I ⟨bA!,e1,a,c,oe,rfl,hp,hc,q⟩
 .cases e2
def hvw(h:ro!):∀c d,GF C1 c=some d->W.subIn X.K cd! aL!=some true/\∃v,DF C1 c=some v/\∀G,Aq X.K G d v:=λc d e=>by
 unfold GF at e;unfold DF;show"!8"
 .rename_i h';subst h';cases e;exact⟨h,_,A!,λG=>Aq.bl⟩
 .cases e
end
end DL
namespace DL
open PySem PySem.Spec PyProof.Rows L2
end DL
namespace DL
open PySem PySem.Spec PyProof.Rows L2 XS
section
variable{X:Cx}{own bc f9:List Nat}{st:Stmt}{rest body b1 b2:List Stmt}{e c tg:Expr}{es:List Expr}{pos p2:Pos}{f:WE}{fs:WA}{ft:WT}{fi:WI}{q1 q2:WS}{M0:Mh}{G0 F0:Hp}{E:EK}
def b7h(h:lU_):PS X ik_ (TX X M0 G0 F0 own bc (Bj f)):=λY s Z H D I ⟨G,ρ,M,R,sr,e',k1,k2⟩=>
 a6v h Y s Z H D I ⟨G,ρ,M,_,sr,e',zA_⟩
end
def AO:D->Prop
 |.int i=>cR!<10 ^ 60
 |.str x=>cR_<=1000
 |.tup [.int i,.int j]=>cR!<10 ^ 60/\j.natAbs<10 ^ 60
 |_=>False
def b7y{v:Int}(h:io!):v.natAbs.log2<1920:=by
 by_cases z:v.natAbs=0
 .rw[z];decide
 .exact(Nat.log2_lt z).mpr (Nat.lt_trans h j_)
def b8b{i:Int}(h:cR!<10 ^ 60):(Str.ofString l0!).length<=61:=by rw[PySem.ofString_length];exact int_text_length_le10 c! h
section
variable{X:Cx}{own:List Nat}{pos p1 p2 p3:Pos}{g:Ad->Prop}{es:List Expr}{n:Nat}
def c3t{Y:k_}{Z:St}{G H:Hp}{k:Nat}{Q:l_}(hr:bn_)(I:d!)(sub:E!)(r:Aq X.K G d v)(rv:a3!)(hd:AO d)
  (hQ:∀x t s',cR_<=1000->Inv X Y Z H s'->Q fF! s'):wpAny e! X.A (formatField u Str.empty) Q X.xe s:=by
 have big:100000<=sizeLine:=by decide
 unfold AO at hd;split at hd
 .rename_i i;cases aZ r;obtain⟨t,rfl⟩:=rv;have:=b8b hd;exact formatField_int_small (b7y hd) (hQ _ _ _ a! ((ey!).tok _))
 .rename_i x;cases bW r;obtain⟨t,rfl⟩:=rv;exact formatField_str (λt' tk=>hQ _ _ _ hd (I.tok tk)) a!
 .rename_i i j;obtain⟨a,vs,rfl,qa,rr⟩:=bN r;obtain⟨v1,t1,rfl,r1,rr⟩:=bF rr;obtain⟨v2,t2,rfl,r2,rr⟩:=bF rr;cases cG rr;cases aZ r1;cases aZ r2;cases (show u=Value.ref a from rv);obtain⟨its,vr,⟨o,J,h2,n,h3⟩,_⟩:=I.tuple (bT sub qa);obtain⟨u1,u2,rfl,w1,w2⟩:=wS vr;obtain⟨k1,rfl⟩:=w1;obtain⟨k2,rfl⟩:=w2;have l1:=b8b hd.1;have l2:=b8b hd.2;have ls:(rp_).shown.length<=1000:=by
   show(tupleText [Str.ofString l0!,Str.ofString (toString j)]).length<=1000;show(rq_++(Str.ofString l0!++Str.ofString ", "++Str.ofString (toString j))++Str.ofString ")").length<=1000;have e1:(rq_).length=1:=by decide+kernel
   have e2:(Str.ofString ", ").length=2:=by decide+kernel
   have e3:(Str.ofString ")").length=1:=by decide+kernel
   simp only[Str.length_append];omega
  have un:=hr.un;have dp:(rp_).depth<=5:=by simp[PyData.depth,PyData.depthAll]
  refine formatField_of_reads (d:=.tuple me!) (.tuple J h2 h3 (.cons (.int i k1) (.cons (.int j k2) .nil))) (by simp[PyData.showable,PyData.showableAll,b7y hd.1,b7y hd.2]) (λz=>by simp[PyData.hasDict,PyData.hasDictAll]at z) hr.gd a! (λb o e=>e) (λh' u tk hk=>?_) a!;exact hQ _ _ _ ls ((I.un (t':=s.toks) (Un.kept hk) (I.hok.kept hk)).tok tk)
 .exact hd.elim
nonrec def g0:Ad->Prop:=λ_=>True
nonrec def gN(i:Nat)(g:l3!):Ad->Prop:=λρ=>(∃d,ρ[i]?=some cr_/\AO d)/\g ρ
structure FJ(X:Cx)(own:k!)(n:Nat)(es:bk_)(g:l3!):Prop where
 ok:∀(Y:k_) (s:z6!) (Z:St) (G H:Hp) (ρ:Ad) (out:Str) (Q:l_),Inv X Y Z H s->OR X.K own G H Z ρ->g ρ->out.length+n<=100000->(∀x t s',Inv X Y Z H s'->Q fF! s')->wpAny e! X.A (joinParts out (evalEach es X.env)) Q X.xe s
def b9f:FJ X own 0 [] g0:=⟨λY s Z G H ρ out Q I er _ hl hQ=>by
 have big:100000<=sizeLine:=by decide
 exact joinParts_nilE (joinParts_nil (hQ _ _ _ ey!) a!)⟩
def c8p{s2:Str}{j:Nat}(h:rt_):FJ X own (s2.length+n) (.Constant (.str s2) j p1::es) g:=⟨λY s Z G H ρ out Q I er hg hl hQ=>by
 have big:100000<=sizeLine:=by decide
 exact joinParts_consE (joinParts_cons (Calls.Constant_str ⟨ru!,h.ok Y _ Z G H ρ _ Q ey! er hg ru_ hQ⟩))⟩
def d1v{i k:Nat}{x:Str}(hr:bn_)(hN:aa_)(hv:cf_)(hi:aP!)(h:rt_)(hd:y_:=by decide)(bv:cg!:=by decide):
  FJ X own (1000+n) (.FormattedValue (.Name x p1) (-1) none p2::es) (gN i g):=⟨λY s Z G H ρ out Q I er ⟨⟨d,e1,hs⟩,hg⟩ hl hQ=>by
 have big:100000<=sizeLine:=by decide
 obtain⟨v,f1,f2⟩:=er.at_ i _ e1 hi;refine joinParts_consE (joinParts_cons (FormattedValue_plain (cX (jX hN hv hd bv Y s Z H (λw H'=>w=v/\H'=H) I ⟨_,f1,rfl,rfl⟩) ?_)));rintro u s' ⟨y,H',I',r,rfl,rfl⟩;exact c3t hr I' er.sub f2 r hs λy t s2 hy I2=>⟨ru!,h.ok Y _ Z G _ ρ _ Q I2 er hg ru_ hQ⟩⟩
def We(g:l3!):WE:=λρ M R=>g ρ/\∀x,R by_ M
def b7s(h:FJ X own n (v1::v2::es) g)(hn:n<=100000:=by decide):ME X own (.JoinedStr (v1::v2::es) pos) (We g):=⟨λY s Z H Q I ⟨G,ρ,M,R,st,⟨e1,e2⟩,k⟩=>
 JoinedStr_many (h.ok Y s Z G H ρ Str.empty _ I st.or e1 (by show 0+n<=_;omega) λx t s' I'=>⟨.str x,H,I',L_,k _ M _ G H (e2 x) kt! st.mr Aq.str⟩)⟩
end
section
variable{X:Cx}{own:List Nat}{e a b o:Expr}{es:List Expr}{pos p1 p2 p3 p4 p5 p6:Pos}{f fa fb fo:WE}{fs:WA}{M0:Mh}{G0 F0:Hp}
def c2t{k:Nat}{ps:o!}{g:WF}{ay:Pos}{pl:eu!}(F:zW!)(hr:bn_)(ho:PE X o (Sq X.prog X.w X.K M0 G0 F0 own fo))(ha:d5!)
  (hst:ag!:=by rfl)(ax:aF!:=by rfl)
  (ht:eval eD! X.env=(do
   let ov <-eval o X.env
   standAt iO!
   let(f,first) <-holding [ov] iO_
   callWith pos f first mR! ge!):=by rfl):PE X eD! (Sq X.prog X.w X.K M0 G0 F0 own zW_):=by
 obtain⟨cl,ag,fd,J,h2,h3⟩:=F;show"!^";refine a9z (pl:=pl) ho cl J h2 hr h3 .nil uB ha.ok hst ax ht Y s Z H Q I ⟨G,ρ,M,_,sr,e',pG_⟩;show"!f";refine⟨p,dx,vs,rfl,hH,hl,G1,ρ,M1,_,rx_,r1,zX!⟩;show"!q"
def d1i{r:R2}{gm:bi!}(hr:gD_)(hg:fo_)(ha:PE X a (Sq X.prog X.w X.K M0 G0 F0 own fa))(hb:bN!)(hs:Nu b):PE X i5_ (Sq X.prog X.w X.K M0 G0 F0 own hm_):=by
 show"!^";refine b0a hr ha hb.ok hs Y s Z H Q I ⟨G,ρ,M,_,sr,e',λx M1 u G1 H1 r1 x1 m1 q1=>⟨G1,ρ,M1,_,rx_,r1,Ay_⟩⟩;have r2:yN_:=r2;split at r2
 .show"!B"
 .exact r2.elim
def AR(C1:xz!)(x:Str)(c:xz!):Option D:=if c=C1 then some by_ else none
def DD(C1:xz!)(x:Str)(c:xz!):Option V:=if c=C1 then some by_ else none
def b0b{en xC x y:Str}{ie j1 j2:Nat}(hN:ri!)(hk:X.env.scope.names.lookup en=some .local)(hg:n2!)(hm:n2_)(hv:n3!)(mz:Gl X xC)(kz:ri_)
  (hd:fT!:=by decide)(yc:rj_:=by decide)(yd:rk!:=by decide)
  (he:rl!:=by rfl)(ir:rl_:=by rfl)
  (ax:(backTo p4 rm!).any c_=false:=by rfl):
  ∀a pn oe c,eW!∈pn->oe.cls=.ref c->PE ib_ (.IfExp (.Call rn! lX! [] p4) (.Constant by_ j1 p5) (.Constant (.str y) j2 p6) pos) λZ H Q=>Z[ie]?=some he_/\∃v,DD C1 x c=some v/\Q v H:=λa pn oe c hp hc Y s Z H Q I ⟨e1,v,e2,q⟩=>by
 unfold DD at e2;split at e2
 .rename_i h;cases e2;refine uA (X:=in!) (a6u (c2b hN hk hg hm hv mz kz hd yc yd he ir ax a pn oe c hp hc)) a6x a6x Y s Z H Q I ⟨e1,eo!,IB h,true,rfl,kD q⟩
 .cases e2
def d1t(h:ro!):∀c d,AR C1 x c=some d->W.subIn X.K cd! aL!=some true/\∃v,DD C1 x c=some v/\∀G,Aq X.K G d v:=λc d e=>by
 unfold AR at e;unfold DD;show"!8"
 .rename_i h';subst h';cases e;exact⟨h,_,A!,λG=>Aq.str⟩
 .cases e
end
end DL
namespace DL
open PySem PySem.Spec PyProof.Rows L2
def FX:Option l5_->Array Value
 |none=>#[]
 |some (b,t)=>#[.int b t,.int b t]
def Yx:Option l5_->List Int->Int
 |some (b,_),xs=>xs.foldl max b
 |none,x::xs=>xs.foldl max x
 |none,[]=>0
section
variable{P:z7!}{w:yO!}{A:x8!}{R:Result->Shared->Prop}{s:z6!}{l I S:xz!}{kw:List (Str×Value)}{full:List Value}
def sZ{h h':Heap}{f:Obj->Obj}(k:∀b o,b∉[I]->h.get? b=some o->h'.get? b=some o):∀b o,b≠I->b≠S->h.get? b=some o->(h'.update S f).get? b=some o:=λb o b1 b2 e=>(JI _ _ (JE b2)).trans (k b o rA_ e)
def b4p{b:Int}:(FX (some (b,t))).size<=sizeLine:=by show 2<=sizeLine;rw[KH];decide
def a0b(hh:bo_)(ye:l≠I)(ub:S≠I)(yf:S≠l):∀(xs:r!) (us:g_) (j:Nat) (acc:Option l5_) (h:Heap) (tk c:Nat),full.drop j=us->j<=iq!->IntsAre us xs->(acc=none->xs≠[])->
  h.IsListIter I l j->h.IsList l iq_->h.get? S=some (seqObj "list" (FX acc) c)->
  (∀t h' ce,rC!->R (.ok (.ret (.int (Yx acc xs) t))) {s with heap:=h',toks:=ce})->
  codeAny C! A rD_ R {s with heap:=h,toks:=tk}
 |[],us,j,acc,h,tk,c,hd,hj,hi,ha,it,il,hS,hR=>by
  have W:=Walks.list (prog:=P) (w:=w) (A:=A.in1) hh I l ye iq_;cases hi;have e1:iq!<=j:=List.drop_eq_nil_iff.mp hd;have ej:j=full.toArray.size:=by rw[HY];omega
  match acc,ha with
  |none,ha=>exact absurd rfl (ha rfl)
  |some (b,t),_=>
   refine RO PySem.F.entry_max_loop ?_;rw[rE!];refine HM rE_;refine HM (RZ (W.done _ _ _ ⟨by rw[<-ej];exact it,il⟩ λh' ce k=>?_));exact HM (wpAny_updateSeq (hz:=b4p) (k S _ rF! hS) rfl (HM (OK (HP (hR t _ _ (sZ k))))))
 |x::xs,us,j,acc,h,tk,c,hd,hj,hi,ha,it,il,hS,hR=>by
  have W:=Walks.list (prog:=P) (w:=w) (A:=A.in1) hh I l ye iq_;have nm:l7!="max.loop":=by decide
  cases hi with
  |@cons _ t us _ hi=>
   have au:j<iq!:=by
    obtain z|z:=MH j iq!
    .exact z
    .rw[List.drop_eq_nil_iff.mpr z]at hd;cases hd
   have hv:full[j]?=some (.int x t):=by
    have:=congrArg (·[0]?) hd;simpa[List.getElem?_drop]using this
   have mi:full.drop bS_=us:=by
    rw[<-List.tail_drop,hd];rfl
   refine RO PySem.F.entry_max_loop ?_;rw[rE!];refine HM rE_;have go:∀(y:Int) (ty:Tok),y=max (Yx acc [x]) y->∀(h':Heap) (ce c':Nat),rC!->h'.IsListIter I l bS_->h'.IsList l iq_->h'.get? S=some (seqObj "list" #[.int y ty,.int y ty] c')->Yx acc dE!=xs.foldl max y->
     codeAny C! A rD_ R {s with heap:=h',toks:=ce}:=λy ty _ h' ce c' k YX YY jw e=>
    a0b hh ye ub yf xs us bS_ (some (y,ty)) h' ce c' mi au hi h1_ YX YY jw λt' h2 YZ k2=>by
     have:=hR t' h2 YZ λb o b1 b2 e=>k2 b o b1 b2 (k b o b1 b2 e);rw[e]at this;exact this
   refine HM (RZ (W.item j _ _ _ (by rw[HY];exact au) ⟨it,il⟩ λv h' ce hP st k=>?_));have ev:v=.int x t:=by
    have:full[j]?=some v:=by simpa using hP
    rw[hv]at this;exact(JX this).symm
   subst ev;have jw:=k S _ rF! hS;have kk:∀b o,b≠I->b≠S->h.get? b=some o->h'.get? b=some o:=λb o b1 _ e=>k b o rA_ e
   match acc,hR,jw,go with
   |none,hR,jw,go=>
    show wpAny _ A.in1 (updateSeq S (λ_=>#[.int x t,.int x t])>>=_) _ _ _;refine HM (wpAny_updateSeq jw rfl ?_);rw[nm];refine HP ⟨PK LK _,go x t (by simp[Yx]) _ _ _ (sZ k) ?_ ?_ rH! rfl⟩
    .obtain⟨o,e1,e2⟩:=st.1;exact rH_
    .obtain⟨o,e1,e2⟩:=st.2;exact rI!
   |some (b,tb),hR,jw,go=>
    show wpAny _ A.in1 (tryCatch (holding [.int x t,.int x t] (richCompare .Gt (.int x t) (.int b tb)>>=_)) _>>=_) _ _ _;refine HM (RZ (JS (HM (CmpOf.ints_gt (prog:=P) (w:=w) (A:=A.in1) (P:=λi v=>∃t,v=.int (if i=0 then x else b) t) (λi=>if i=0 then x else b) (λi v h=>h) 0 1 _ _ _ _ _ eQ_ ⟨tb,rfl⟩ ?_))));refine HM (JS (JW ?_));refine HM (OK O_);show wpAny _ A.in1 (if decide (x>b)=true then _ else _) _ _ _;by_cases g:x>b
    .rw[IY g,A!];refine HM (wpAny_updateSeq (hz:=b4p) jw rfl (HM (OK ?_)));rw[nm];refine HP ⟨PK LK _,go x t rK_ _ _ _ (sZ k) ?_ ?_ rH! (by show(dE!).foldl max b=_;rw[NX,show max b x=x by omega])⟩
     .obtain⟨o,e1,e2⟩:=st.1;exact rH_
     .obtain⟨o,e1,e2⟩:=st.2;exact rI!
    .rw[IG g,T_];refine HM (OK ?_);rw[nm];exact HP ⟨PK LK _,go b tb rK_ _ _ _ kk st.1 st.2 jw (by show(dE!).foldl max b=_;rw[NX,show max b x=b by omega])⟩
end
end DL
namespace DL
open PySem PySem.Spec PyProof.Rows L2
def b4c(a v:xT!):argsOk "max" ⟨[a],[(Str.ofString "default",v)]⟩:=by unfold argsOk;kernel_rfl
def c0n:bootBuiltins "max"=some iu!:=by decide+kernel
section
variable{P:z7!}{w:yO!}{A:x8!}{E:Value->Shared->Prop}{Q:Value->Shared->Prop}{s:z6!}{l:xz!}{dv:xT!}
def b7u{us:g_}{xs:r!}(hh:bo_)(hl:qe!)(hi:IntsAre us xs)(hne:xs≠[])
  (hQ:rO!):
  wpAny C! A (call iu! hL! rP!) Q E s:=by
 have nm:l7!="max.loop":=by decide
 obtain⟨ol,yg,_⟩:=id hl;have uc:l<g!:=IS yg;refine kmb_tree PySem.F.kind_max PySem.F.plain_max PySem.F.entry_max (b4c _ _) ?_;refine HM (wpAny_of_eq (show Builtin.Builtins.bindParams "max" rP_ 0 ⟨[],rP!⟩=pure [none,some dv]from rfl) ?_);refine HM rR_;rw[nm];generalize hG:s.heap.push {cls:=.type "list_iterator",data:=.fields #[.ref l,.int 0 0]}=G;have hS:iv_=g!+1:=by rw[<-hG];exact size_push' ..
 have gI:G.get? g!=some {cls:=.type "list_iterator",data:=.fields #[.ref l,.int 0 0]}:=by rw[<-hG];exact IK _ rfl
 have gk:∀b o,s.heap.get? b=some o->G.get? b=some o:=λb o e=>by rw[<-hG];exact HU _ e
 refine HP ⟨PK LK _,a0b (full:=us) (l:=l) (I:=g!) (S:=iv_) hh (JF uc) rS! rS_ xs us 0 none _ _ 0 rfl bL! hi (λ_=>hne)
  (rT!) ?_ hb! λt h' ce k=>hQ t h' ce λb o e=>?_⟩
 .obtain⟨o,e1,e2⟩:=hl;exact rU!
 .have hb:=IS e;exact k b o (JF hb) rU_ rX!
end
def b4d(a:xT!):argsOk "max" ⟨[a],[]⟩:=by unfold argsOk;kernel_rfl
def b3i{P:z7!}{w:yO!}{A:x8!}{E:l_}{Q:l_}{s:z6!}{l:xz!}{us:g_}{xs:r!}(hh:bo_)(hl:qe!)(hi:IntsAre us xs)(hne:xs≠[])
  (hQ:rO!):
  wpAny C! A (call iu! hL!) Q E s:=by
 have nm:l7!="max.loop":=by decide
 obtain⟨ol,yg,_⟩:=id hl;have uc:l<g!:=IS yg;refine kmb_tree PySem.F.kind_max PySem.F.plain_max PySem.F.entry_max (b4d _) ?_;refine HM (wpAny_of_eq (show Builtin.Builtins.bindParams "max" rP_ 0 ⟨[],[]⟩=pure iw_ from rfl) ?_);refine HM rR_;rw[nm];generalize hG:s.heap.push {cls:=.type "list_iterator",data:=.fields #[.ref l,.int 0 0]}=G;have hS:iv_=g!+1:=by rw[<-hG];exact size_push' ..
 have gI:G.get? g!=some {cls:=.type "list_iterator",data:=.fields #[.ref l,.int 0 0]}:=by rw[<-hG];exact IK _ rfl
 have gk:∀b o,s.heap.get? b=some o->G.get? b=some o:=λb o e=>by rw[<-hG];exact HU _ e
 refine HP ⟨PK LK _,a0b (full:=us) (l:=l) (I:=g!) (S:=iv_) hh (JF uc) rS! rS_ xs us 0 none _ _ 0 rfl bL! hi (λ_=>hne)
  (rT!) ?_ hb! λt h' ce k=>hQ t h' ce λb o e=>?_⟩
 .obtain⟨o,e1,e2⟩:=hl;exact rU!
 .have hb:=IS e;exact k b o (JF hb) rU_ rX!
section
variable{X:Cx}{own:List Nat}{e:Expr}{fa:WE}{p p2 kp pos:Pos}{k:Int}{j:Nat}
def vD:∀{xs:r!} {us:g_},Ax (xs.map V.int) us->IntsAre us xs
 |[],_,.nil=>.nil
 |x::xs,_,.cons r t=>by obtain⟨tk,rfl⟩:=r;exact .cons x tk (vD t)
def Ry:List D->Option D
 |[.lst ds]=>(Mp ds).bind λxs=>match xs with|[]=>none|x::xs=>some (.int (xs.foldl max x))
 |_=>none
def c2y(Y0:Gl X "max")(x5:X.mg "max"=none)(hc:ay!)(ha:ME X own e fa)(he:gZ!:=by rfl):
  ME X own (.Call (.Name "max" p) [e] [⟨some "default",.Constant er! j p2,kp⟩] pos) (w1 (λ_=>Ry) (Ab fa Af)):=⟨by
 intro Y s Z H Q I ⟨G,ρ,M,R,st,e1,kq⟩;refine MD (iP I Y0 x5 c0n ?_ c! c!);refine callWith_kw (cX ((aE ha aO he).ok pos Y s Z H _ I ⟨G,ρ,M,_,st,e1,λds M1 vs G1 H1 r1 x1 m1 q1=>(⟨ds,M1,G1,r1,x1,m1,q1⟩:∃ds M1 G1,Fc (Ry ds) (λd=>R d M1)/\XM M G H M1 G1 H1/\MR X.prog X.w X.K M1 G1 H1/\Al X.K G1 ds vs)⟩) λus s1 ⟨vs,H1,I1,r,ds,M1,G1,r1,x1,m1,q1⟩=>?_) lb_ lb_ rfl rfl;refine kws_cons (wpAny_Constant_int (kws_nil ?_));obtain⟨d,J,h2⟩:=cR r1;unfold Ry at J;split at J
 .rename_i qc;obtain⟨xs,e2,J⟩:=HN.mp J;obtain⟨v,t,rfl,rv,rr⟩:=bF q1;show"!r";obtain⟨its,hv,pl,hz⟩:=I1.list Bp_;obtain⟨u,rfl,ru⟩:=mT r;cases ru
  match xs,J with
  |x::xs,J=>
   cases J;exact b7u (s:={s1 with toks:=s1.toks+1}) (I1.ok.hd hc) pl.isList (vD hv) b_ λt h' ce kp=>⟨fX_,H1,I1.kept (t':=ce) kp,eQ_,kq _ M1 _ G1 H1 h2 x1 m1 Aq.int⟩
 .cases J⟩
def Yt(K:zY!):List V->Hp->VK->Prop:=λxs H Q=>∃l x ys,xs=hL!/\Fh K H l ((x::ys).map V.int)/\Q (.int (ys.foldl max x)) H
def b4a(hc:ay!):Ir X iu! (Yt X.K):=by intro Y s Z H xs us Q I r ⟨l,x,ys,e1,sq,q⟩;subst e1;obtain⟨u,rfl,ru⟩:=mT r;cases ru;obtain⟨its,hv,pl,hz⟩:=I.list sq;exact b3i a3_ pl.isList (vD hv) b_ λt h' ce kp=>⟨fX_,H,I.kept (t':=ce) kp,eQ_,q⟩
def c4o{K:zY!}:Rl K (Yt K) Ry:=by
 intro vs ds d G H Q sub r J kq;unfold Ry at J;split at J
 .obtain⟨xs,e2,J⟩:=HN.mp J;obtain⟨v,t,rfl,rv,rr⟩:=bF r;show"!r"
  match xs,J,sq with
  |x::xs,J,sq=>
   cases J;exact⟨l,x,xs,rfl,sub.seq sq,kq _ G H aJ! Aq.int⟩
 .cases J
end
end DL
namespace DL
open PySem PySem.Spec PyProof.Rows L2
abbrev En(h:Heap)(e it:xz!)(f:xT!)(b:Bool)(i:Int)(old:xT!):Prop:=
 h.get? e=some {cls:=.type "enumerate",dict:=none,data:=.fields #[f,.bool b,.ref it,rawInt i,.none,old],slots:=#[]}
section
variable{prog:z7!}{w:yO!}{A:x8!}{E:Value->Shared->Prop}{s:z6!}
def a2c{Q:Option Obj->Shared->Prop}(h:Q (s.heap.get? a) s):wpAny o_ A (loadIfAlive a) Q E s:=λΓ p hG=>h
def a4y{i T:Nat}{b:Bool}{items:I!}{Q:l_}
  (he:En s.heap e it dz_ b i old)(hT:s.heap.get? T=some oT)(Y1:T≠it)(qo:T≠e)(ar:mg!)(hl:mg_)(hx:r3_)(hne:hC!)
  (hQ:∀h',En h' e it dz_ true fu! old->h'.IsListIter it l ab_->
   h'.get? g!=some {cls:=.type "tuple",data:=.seq #[.int i s.toks,x]}->fG_=g!+1->
   r2_->Q bl_ {s with heap:=h',toks:=s.toks+1}):
  wpAny o_ A (Builtin.«enumerate.__next__» ⟨[.ref e],[]⟩) xw_ E s:=by
 show"#A";show wpAny _ _ zb! _ _ _;refine HM r4_;refine HM (wpAny_nextOf_list_item ar hl hx λh₁ UM qr=>?_)
 replace qr:Heap.SameBut it hp h₁:=qr
 have ve:En h₁ e it dz_ b i old:=(qr.2 e hne).trans he;show wpAny _ _ (field Y! 3>>=_) _ _ mh_;refine HM (KB ve rfl (x:=rawInt i) rfl ?_);show wpAny _ _ (field Y! 4>>=_) _ _ mh_;refine HM (KB ve rfl (x:=bX!) rfl ?_);show wpAny _ _ (mkInt i>>=_) _ _ mh_;refine HM (wpAny_mkInt ?_);show wpAny _ _ (setField Y! 3 pK_>>=_) _ _ ⟨h₁,g,d,tk+1,os⟩;refine HM (LJ ve b_ λiq vf qt=>?_)
 replace qt:Heap.SameBut e h₁ iq:=qt
 replace vf:En iq e it dz_ b fu! old:=vf
 show wpAny _ _ (setField Y! 4 .none>>=_) _ _ ⟨iq,g,d,tk+1,os⟩;refine HM (LJ vf b_ λg7 vg qu=>?_)
 replace qu:Heap.SameBut e iq g7:=qu
 replace vg:En g7 e it dz_ b fu! old:=vg
 show wpAny _ _ (newTuple [.int i tk,x]>>=_) _ _ ⟨g7,g,d,tk+1,os⟩;refine HM (SA ?_);have ud:En (g7.push {cls:=.type "tuple",data:=.seq #[.int i tk,x]}) e it dz_ b fu! old:=HU _ vg;generalize ue:g7.push {cls:=.type "tuple",data:=.seq #[.int i tk,x]}=jk at ud;have hsz:g7.objs.size=f2!:=by rw[qu.1,qt.1,qr.1]
 have Y2:e<f2!:=IS he;have Y3:jk.get? f2!=some {cls:=.type "tuple",data:=.seq #[.int i tk,x]}:=by rw[<-ue,<-hsz];exact IK _ rfl
 have Y4:jk.objs.size=f2!+1:=by rw[<-ue,NM,hsz]
 have UN:∀b o,b≠e->b≠it->hp.get? b=some o->jk.get? b=some o:=λb o dw yh hb=>by
  rw[<-ue];exact HU _ (qu.extBut b o dw (qt.extBut b o dw (qr.extBut b o yh hb)))
 have Y5:jk.IsListIter it l ab_:=by
  rw[<-ue];obtain⟨o,ho,r⟩:=(UM.extBut qt.extBut (JE hne)).extBut qu.extBut (JE hne);exact⟨o,HU _ ho,r⟩
 have Y6:=UN T oT qo Y1 hT;show wpAny _ _ (Builtin.SmallTypes.ownedTupleIsFree Y!>>=_) _ _ ⟨jk,g,d,tk+1,os⟩;rw[hsz];clear ue vg qu vf qt ve qr UM hsz g7 iq h₁;refine HM ?_;unfold Builtin.SmallTypes.ownedTupleIsFree;refine HM (KB ud rfl (x:=rawInt T) rfl ?_);show wpAny _ _ (loadIfAlive (((T:Nat):Int).toNat)>>=_) _ _ _;rw[NK];refine HM (a2c ?_);show wpAny _ _ (if(jk.get? T).isNone=true then _ else _) _ _ _;rw[Y6];show wpAny _ _ (field Y! 1>>=_) _ _ _;refine HM (KB ud rfl (x:=.bool b) rfl ?_);have fin:∀jy,En jy e it dz_ true fu! old->Heap.SameBut e jk jy->Q (.ref f2!) ⟨jy,g,d,tk+1,os⟩:=λjy yi qw=>
  hQ jy yi (Y5.extBut qw.extBut (JE hne)) (qw.extBut _ _ (LO Y2) Y3) (by rw[qw.1,Y4]) λb o dw yh hb=>qw.extBut b o dw (UN b o dw yh hb)
 cases b with
 |true=>exact HP (HP ⟨_,rfl,fin jk ud ⟨rfl,iB!⟩⟩)
 |false=>
  show wpAny _ _ (setField Y! 1 eP_>>=_) _ _ _;exact HM (LJ ud b_ λjy yi qw=>HP (HP ⟨_,rfl,fin jy yi qw⟩))
def c3y(a:xz!)(xs:I!)(name:Str)(u:Tok)(UO:typeLookup mo! name=pure none)(Y7:(["__module__","__name__","__qualname__","__doc__","__annotations__"]:List Str).contains name=false)(hsz:name.length+100<=sizeLine):
  Meets (Builtin.«object.__getattribute__» ⟨[bA!,.str name u],[]⟩) (λA R s=>s.heap.get? a=some {cls:=.type "enumerate",dict:=none,data:=.fields xs,slots:=#[]}/\raisesAttr F! name A R s):=
 Meets.of_wp λprog w A R s hs=>by
  show"#A";obtain⟨hx,hs⟩:=hs;have hT:(fd!:z6!).TypeIs F! "enumerate":=sc!;unfold Builtin.«object.__getattribute__»
  repeat (any_goals (first|assumption|wp_step))
  simp only[Y7,JB,JT]
  repeat (any_goals (first|assumption|wp_step))
  exact wpAny_raiseAttrError hs.1 hs.2 (attrMsg_fits j_ hsz)
def b9n:entryFor table "enumerate.__getattribute__"=some Builtin.«object.__getattribute__»:=
 entryFor_alias (id':="object.__getattribute__") f2_ j_ j_ f2_
def a8h{xs:I!}{Q:cA_}(hx:s.heap.get? a=some {cls:=.type "enumerate",dict:=none,data:=.fields xs,slots:=#[]})(hA:bo_)
  (h:∀h' tk,rN_->Q none {s with heap:=h',toks:=tk}):wpAny o_ A (getAttr? F! "keys") Q E s:=by
 show"#A";have hT:∀ce,(⟨hp,g,d,ce,os⟩:z6!).TypeIs F! "enumerate":=λ_=>sc!;have UO:typeLookup mo! "keys"=pure none:=am_miss_of_fast j_;have f1:=sub_AttributeError;have f3:=PX.lookup;have f4:=PX.bind F!;have f5:typeLookup mo! "__getattr__"=pure none:=F.plainAttrs_enumerate.noGetattr;unfold getAttr? getAttrBy? getAttrBy
 repeat (any_goals (first|assumption|exact hT _|((with_reducible show wpAny _ _ (call (Value.builtin "enumerate.__getattribute__") _ _) _ _ _);refine RS PX (hT _) b9n (F.args_enumerate_getattribute_2 _ _) (c3y a xs _ _ UO j_ g9!) ⟨hx,hA,λh' ce e nr=>?_⟩)|wp_step))
 obtain⟨t',u',he⟩:=nr.there;show wpAny _ _ (getattributeRaised _ _ _ _ _ _ _) _ _ _;unfold getattributeRaised
 repeat (any_goals (first|assumption|wp_step))
 exact h _ _ nr.keeps
end
def yH:entryFor table "dict.update.loop"=some Builtin.«dict.update.loop»:=entryFor_of_tree f2_
def yG:plainId "dict.update.loop"=true:=by decide+kernel
section
variable{X:Cx}{Y:List (Addr×Obj)}{Z:St}{G H:Hp}{M:Mh}{s:z6!}{A:x8!}{R:Result->Shared->Prop}{e it c l:xz!}{vs:List V}{xs:List D}
def AV(X:Cx)(Y:k_)(H:Hp)(h:Heap)(e it:xz!)(i:Nat):Prop:=
 Ag!\/∃T b old o,En h e it (rawInt (T:Nat)) b i old/\h.get? T=some o/\(∀v,o.data≠.cell v)/\T≠it/\T≠e/\Fx X Y H T
def b9l{i:Nat}{items:I!}{E:l_}{Q:cA_}(I:d!)(st:sd_)(ar:mg!)(hl:mg_)(hx:r3_)(hne:hC!)
  (hQ:∀h',AV X Y H h' e it ab_->h'.IsListIter it l ab_->h'.get? g!=some {cls:=.type "tuple",data:=.seq #[.int i s.toks,x]}->
   (∀b o,b∉bw!->s.heap.get? b=some o->h'.get? b=some o)->Q (some bl_) {s with heap:=h',toks:=s.toks+1}):
  wpAny e! A (pyNext Y!) Q E s:=by
 have kp:∀{h':Heap},r2_->∀b o,b∉bw!->s.heap.get? b=some o->h'.get? b=some o:=λk b o hb eo=>k b o fP! fP! eo;obtain⟨old,he⟩|⟨T,b,old,o,he,hT,hd,J,h2,hf⟩:=st
 .have Y8:g!≠e:=λz=>LM _ (z▸IS he);have ww:g!≠it:=λz=>by
   obtain⟨o,q,_⟩:=ar;exact LM _ (z▸IS q)
  exact wpAny_pyNext_enum_item he ar hl hx hne λh' a b c d k=>hQ h' (.inr ⟨_,_,_,_,se_,c,λv z=>(by cases z),ww,Y8,I.fpOk v_ eE!⟩) b c (kp k)
 .have UP:s.TypeIs Y! "enumerate":=sg!;exact HM (ON (JZ (name:=fb!) UP PR
   (JR PR UP F.entry_enumerate_next
    (a4y he hT J h2 ar hl hx hne λh' a b c d k=>HP (hQ h' (.inr ⟨T,_,_,o,se_,k T o h2 J hT,hd,J,h2,hf⟩) b c (kp k))) sh_)))
def c3x{i:Nat}{items:I!}{E:l_}{Q:cA_}(hh:bo_)(st:sd_)(ar:mg!)(hl:mg_)(hx:items[i]?=none)
  (hQ:Ab!):wpAny e! A (pyNext Y!) Q E s:=by
 have hg:∃f b old,En s.heap e it f b i old:=by
  obtain⟨old,he⟩|⟨T,b,old,o,he,_⟩:=st
  .exact si!
  .exact si!
 obtain⟨f,b,old,he⟩:=hg;have hT:s.TypeIs Y! "enumerate":=sg!;refine HM (ON (JZ (name:=fb!) hT PR
  (JR PR hT F.entry_enumerate_next ?_ sh_)))
 show wpAny _ _ zb! _ _ _;refine HM r4_;refine HM (wpAny_nextOf_list_end hh ar hl hx λh' x iz nr=>?_);obtain⟨o,ho,hc⟩:=nr;refine HM (wpAny_isInstance (T:=oD!) (b:=true) ⟨o,ho,hc⟩ isSubtype_stop ?_);exact HP (hQ _ iz)
def b9m{i:Nat}{h:Heap}(st:AV X Y H h e it i)(ar:h.IsListIter it l i)(hf:sj!):
  ∃fp:List Addr,(∀b∈bw!,b∈fp)/\l6!/\(∀b∈fp,∃o,h.get? b=some o/\∀v,o.data≠.cell v)/\∀(h2:Heap) (H2:Hp),(∀b∈fp,∀o,h.get? b=some o->h2.get? b=some o)->(∀b∈fp,Fx X Y H2 b)->AV X Y H2 h2 e it i:=by
 obtain⟨oi,q1,_,q2⟩:=ar;have hi:∃o,h.get? it=some o/\∀v,o.data≠.cell v:=⟨oi,q1,λv z=>by rw[q2]at z;cases z⟩;obtain⟨old,he⟩|⟨T,b,old,o,he,hT,hd,J,h2,Y9⟩:=st
 .refine⟨bw!,λb hb=>hb,hf,ci_,λh2 H2 k _=>.inl ⟨old,k e b_ _ he⟩⟩;simp only[HV,JJ,LH]at hb;obtain rfl|rfl:=hb
  .exact sl_
  .exact hi
 .refine⟨[T,e,it],λb hb=>HS _ hb,ci_,ci_,λlp H2 k k2=>.inr ⟨T,b,old,o,k e b_ _ he,k T b_ _ hT,hd,J,h2,k2 T b_⟩⟩
  .obtain rfl|hb:=HV.mp hb
   .exact Y9
   .exact hf b hb
  .simp only[HV,JJ,LH]at hb;obtain rfl|rfl|rfl:=hb
   .exact⟨o,hT,hd⟩
   .exact sl_
   .exact hi
def b4f{i:Nat}(hi:i<i_):sm!=iF!++[(D.int (i:Nat),xs[i])]:=by rw[NG hi,List.zipIdx_append,IZ,NQ,Nat.min_eq_left a!];simp
def a8y{i:Nat}:D.int (i:Nat)∉(iF!).map c_:=λz=>by
 rw[JU]at z;show"#@";have:=List.snd_lt_of_mem_zipIdx hq;have h2:=D.int.inj e;rw[NQ]at this;omega
def b9p(hc:ay!)(hA:bo_)(hu:A.in1.units<cLine)(hne:hC!)(hq:∀{H:Hp},Ba G H->Fh X.K H l vs)(rl:sn!)(hl:i_<=1000):∀(n i:Nat) (j:Int) (s:z6!) (H:Hp) (M:Mh),i_ - i=n->i<=i_->Inv X Y Z H s->MR X.prog X.w X.K M G H->Ba G H->M c=some (.dct iF! i)->
  (∀b∈bw!,Fx X Y H b)->AV X Y H s.heap e it i->s.heap.IsListIter it l i->
  (∀H' s',Inv X Y Z H' s'->XM M G H (mup M c bT_) G H'->MR X.prog X.w X.K (mup M c bT_) G H'->R (.ok (.ret .none)) s')->
  codeAny e! A (.builtin "dict.update.loop" ⟨[.ref c,.ref e,rawInt j,bX!],[]⟩) R s:=by
 intro n
 induction n with
 |zero=>
  intro i j s H M hn hi I m sub hM hf st ar hR;obtain⟨its,rv,pl,hz⟩:=I.list (hq sub);have J:=aI rl;have h2:=ep_;refine RO yH ?_;refine HM (c3x hA st ar pl.isList a4! λh' eb=>?_);have I':Inv X Y Z H {s with heap:=h',toks:=s.toks}:=gW (wr:=bw!) I hf λc o hc eo=>eb c o h6_ eo;have hx:mup M c bT_=M:=by
   have ei:i=i_:=by omega
   subst ei;rw[List.take_length]at hM;show"#,";split
   .rename_i z;rw[z,hM]
   .rfl
  have:=hR H _ I';rw[hx]at this;exact HM (HP (HP (this (.refl sub) m)))
 |succ n ih=>
  intro i j s H M hn hi I m sub hM hf st ar hR;obtain⟨its,rv,pl,hz⟩:=I.list (hq sub);have de:i<i_:=by omega
  obtain⟨v,gv,Y'⟩:=gH rl (IL de);obtain⟨u,om,ru⟩:=rv.get gv;refine RO yH ?_;refine HM (b9l I st ar pl.isList (x:=u) (by simpa using om) hne λh' σ ja hT kp=>?_);have I':Inv X Y Z H {s with heap:=h',toks:=s.toks+1}:=gW (wr:=bw!) I hf kp;obtain⟨fp,f1,f2,f3,f4⟩:=b9m σ ja hf;have I2:=I'.pinned f2 f3;have ZA:({s with heap:=h',toks:=s.toks+1}:z6!).TypeIs bl_ "tuple":=⟨_,hT,rfl⟩;refine HM (JS ?_);refine HM (RZ ?_);refine HM (RJ ZA ?_);refine HM (LV hT rfl O_);refine JS (a8n hu I2 m sub hM (u:=.int i s.toks) (d:=.int (i:Nat)) ⟨_,Aq.int,L_⟩ (k:=some (.inl (.inl (i:Nat)))) rfl ⟨v,Y',ru⟩ (by rw[IP,RP,NQ];exact IW (show min i i_<1001 by omega) c!) λa7 s' I3 c'=>?_);have qh:Hc iF! (.int (i:Nat)) i=i+1:=by unfold Hc;rw[pC a8y];simp
  rw[qh]at I3 c';rw[jO a8y,<-b4f de]at c';have m':=m.write hM c';have x':XM M G H sq! G sr!:=XM.write m sub hM;have xk:∀b∈fp,b≠c:=λb hb z=>m.has (by rw[hM];simp:M c≠none) (z▸(dz!).1);have fk:∀b∈fp,Fx X Y sr! b:=λb hb=>⟨by rw[aY (xk b hb)];exact(dz!).1,(dz!).2⟩;have pk:∀b∈fp,∀o,h'.get? b=some o->s'.heap.get? b=some o:=λb hb o eo=>(I3.pin (b,o) (HZ _ (HZ _ (iO hb eo)))).1;have ZB:s'.heap.IsListIter it l ab_:=by
   obtain⟨o,q1,q2⟩:=ja;exact⟨o,pk it (f1 it b_) o q1,q2⟩
  refine HP ⟨PK yG _,ih ab_ bS_ s' _ _ a! de I3.unpinned m' x'.sub mup_same (λb hb=>fk b (f1 b hb)) (f4 _ _ pk fk) ZB λH4 s4 I4 x4 m4=>?_⟩;have gh:mup sq! c bT_=mup M c bT_:=by
   show"#,";split<;>rfl
  rw[gh]at x4 m4;exact hR H4 s4 I4 (x'.trans x4 m') m4
end
section
end
end DL
namespace DL
open PySem PySem.Spec PyProof.Rows L2
def c4q:bootBuiltins "dict"=some su!:=by decide+kernel
section
variable{X:Cx}{Y:List (Addr×Obj)}{Z:St}{G H:Hp}{M:Mh}{s:z6!}{e it l:xz!}{vs:List V}{xs:List D}{E:Value->Shared->Prop}{Q:Value->Shared->Prop}
def a5l(hc:ay!)(hu:an_)(I:d!)(m:bv_)(sub:E!)(q:Fh X.K G l vs)(rl:sn!)(hl:i_<=1000)(he:IsEnum s.heap e it 0 .none)(ar:s.heap.IsListIter it l 0)(hf:sj!)(hne:hC!)
  (k:∀p H' s',M p=none->Inv X Y Z H' s'->XM M G H (mup M p bT_) G H'->MR X.prog X.w X.K (mup M p bT_) G H'->Q cl! s'):wpAny e! X.A (call su! [.ref e]) Q E s:=by
 have du:H g!=none:=I.fresh;refine callType_codes (Q₁:=λobj al=>obj=.ref g!/\al={s with heap:=s.heap.push {cls:=.type "dict",data:=.dict #[]}}) F.kt_called_dict (F.kt_typeCall_dict_1 _) F.entry_dict_init (kt_code_dict_new _ aE!) ?_;rintro obj al ⟨rfl,rfl⟩;have D0:Oa kH_ s.heap.objs.size [] 0:=pq!;have I1:Inv X Y Z dl! {s with heap:=s.heap.push {cls:=.type "dict",data:=.dict #[]}}:=by
  refine pq_;show"!Q"
 have x0:XM M G H hv_ G dl!:=.laid sub du;have m0:MR X.prog X.w X.K hv_ G dl!:=m.laid du sub pr!;have uy:({s with heap:=s.heap.push {cls:=.type "dict",data:=.dict #[]}}:z6!).TypeIs bl_ "dict":=j6!;have yj:IsEnum kH_ e it 0 .none:=HU _ he;refine⟨uy,F.args_dict_init_2 _ _,?_⟩;refine HM ?_;refine HM (OJ uy ?_);refine HP ?_;show wpAny _ _ (Builtin.Dict.updateFrom "dict.__init__" s.heap.objs.size Y! [] .none) _ _ _;refine HM (RJ (T:="enumerate") ⟨_,yj,rfl⟩ ?_);refine HM (a8h yj a3_ λh' tk kp=>?_);refine HM fc!;have I2:Inv X Y Z dl! {s with heap:=h',toks:=tk}:=I1.kept (t':=tk) kp;have ir:IsEnum h' e it f0_ .none:=kp _ _ yj;refine HM (wpAny_pyIter_enum ir (HP ⟨PK yG _,?_⟩));have fk:∀b∈bw!,Fx X Y dl! b:=λb hb=>by
  refine⟨?_,(fZ!).2⟩;have:b≠g!:=λz=>by
   subst z;simp only[HV,JJ,LH]at hb;obtain z|z:=hb
   .exact LM _ (z▸IS he)
   .obtain⟨o,q1,_⟩:=ar;exact LM _ (z▸IS q1)
  rw[aY this];exact(fZ!).1
 have ZC:h'.IsListIter it l 0:=by
  obtain⟨o,q1,q2⟩:=ar;exact⟨o,kp _ _ (HU _ q1),q2⟩
 refine b9p (A:=X.A.in1) (c:=g!) hc a3_ (by have:=iC X.A;have:=iC X.A.in1;omega) hne (λsb=>sb.seq q) rl hl xs.length 0 0 _ _ _ a! bL! I2 m0 x0.sub mup_same fk (.inl ⟨_,ir⟩) ZC λH4 s4 I4 x4 m4=>?_;have gh:mup hv_ s.heap.objs.size bT_=mup M s.heap.objs.size bT_:=by
  show"#,";split<;>rfl
 rw[gh]at x4 m4;exact⟨rfl,k _ H4 s4 (m.nocell du) I4 (x0.trans x4 m0) m4⟩
variable{own:List Nat}{a:Expr}{pos uf p p2:Pos}{fa:WE}
def Ur(f:WE):WE:=λρ M R=>f ρ M λd M1=>match d with
 |.lst xs=>i_<=1000/\∀p,M1 p=none->R z! sx_
 |_=>False
def b3g(hu:an_)(hg:Gl X "dict")(hm:X.mg "dict"=none)(mz:Aj!)(kz:Al!)(hc:ay!)(h:aw!)(hs:Ak!:=by rfl)(ax:(backTo uf og_).any c_=false:=by rfl)
  (bn:starEach sz! X.env=(false,eval (.Call sy! [a] [] uf) X.env)::starEach [] X.env:=by rfl)(ZD:Ak_:=by rfl):
  ME X own (.Call (.Name "dict" p) sz! [] pos) (Ur fa):=⟨by
 intro Y s Z H Q I ⟨G,ρ,M,R,st,e,k⟩;refine Call_ (iP I hg hm c4q (KO ?_ bn ZD));refine LL ?_;refine Call_ (iP I mz kz boot_enumerate (KO (cX (dA h.ok fP hs uf Y s Z H (λvs H1=>∃v xs M1 G1,vs=[v]/\(i_<=1000/\∀p,M1 p=none->R z! sx_)/\XM M G H M1 G1 H1/\MR X.prog X.w X.K M1 G1 H1/\Aq X.K G1 Q_ v) I ⟨G,ρ,M,_,st,e,pG_⟩) λus s1 ⟨vs,H1,I1,r1,v,xs,M1,G1,q1,t1,x1,m1,rr⟩=>?_) hs ax))
 .cases d<;>first|exact r1.elim|skip
  exact⟨v,_,M1,G1,rfl,r1,x1,m1,q1⟩
 subst q1;obtain⟨l,ys,rfl,q,rl⟩:=bO rr;obtain⟨u,rfl,ru⟩:=mT r1;cases ru;obtain⟨its,rv,pl,hz⟩:=I1.list (x1.sub.seq q);refine call_enumerate_list pl.isList λh' he ar hsz hk=>?_;have jo:∀b∈[y!+1,y!],y!<=b:=λb hb=>by
  simp only[HV,JJ,LH]at hb;obtain rfl|rfl:=hb<;>omega
 refine NR ?_;exact a5l hc hu (I1.kept (t':=s1.toks) hk) m1 x1.sub q rl t1.1 he ar (λb hb=>I1.fpOk pP! Ao!) An! λp H' s' hp I2 x2 m2=>⟨.ref p,H',I2,rfl,k _ _ _ G1 H' (t1.2 p hp) b8_ m2 Aq.fn⟩⟩
end
end DL
namespace DL
open PySem PySem.Spec PyProof.Rows L2
def FY:List D->Option D
 |[.int i,.int j]=>some (.int (if j>i then j else i))
 |_=>none
section
variable{X:Cx}{own:List Nat}{b:Expr}{es:List Expr}{pos p2:Pos}{fs:WA}{fb:WE}
def Uo(fs:WA)(fb:WE):WE:=λρ M R=>fs ρ M λds M1=>f_<=1000/\fb ρ M1 λy M2=>match y with
 |.int k=>Aw!/\R Aw_ M2
 |_=>False
def c2w(ha:hm!)(hb:bN!):ME X own Ax! (Uo fs fb):=
 eX Ax_ λZ G H Q ρ M R st e k=>⟨G,ρ,M,_,st,e,λds M1 vs G1 H1 r1 x1 m1 q1=>⟨by rw[<-aI q1];exact eY r1.1,λp hp=>by
  have xj:Cc G1 H1 G1 Ay!:=a4x x1.sub hp;have hM:M1 p=none:=m1.nocell hp;refine Az!;cases y<;>first|exact r2.elim|skip
  rename_i n;cases aZ q2;obtain⟨⟨hn,g6,hl⟩,r2⟩:=r2;have xt:H2 p=some cr!:=x2.keep p _ bQ hM;refine Az_;have xu:=(AA!).trans x2 pT_;have xl:Cc G2 H2 (upd G2 c sB_) (upd H2 c sB_):=Cc.laid x2.sub hc;exact k _ _ _ _ _ r2 (xu.trans (.ext xl) m2) (m2.ext xl) (dM (x2.sub.free hc) (tU bv! _))⟩⟩
end
end DL
namespace K22
open PySem L2 DL
nonrec def top(i:Nat):Stmt:=PySem.Challenge.pw_manyhands_k22_own_numbers.main.body.getD i sD_
def Li(i j:Nat):Stmt:=match top i with
 |.ClassDef _ _ _ b _ _ _ _ _ _ _=>b.getD j sD_
 |s=>s
structure Ar where
 mk::
 A0:Addr
 A7:Addr
 A8:Addr
 A9:Addr
 B0:Addr
 B1:Addr
 B2:Addr
 B3:Addr
 B4:Addr
 B5:Addr
 B6:Addr
 B7:Addr
 HandsError:Addr
 NotThere:Addr
abbrev Oo:Stmt:=top 12
def a2i:Ai p! p! (Ae Oo):=h_
abbrev Os:Stmt:=top 13
def a2k:Ai f8! f8! (Ae Os):=h_
abbrev Ku:Stmt:=top 14
def tN:Ai p! p! (Ae Ku):=h_
abbrev Pm:Stmt:=top 15
def a6j:Ai p! p! (Ae Pm):=h_
abbrev Kb:Stmt:=top 16
def rX:Ai p! p! (Ae Kb):=h_
abbrev Pn:Stmt:=top 17
def a6k:Ai p! p! (Ae Pn):=h_
abbrev Mj:Stmt:=top 18
def vX:Ai p! p! (Ae Mj):=h_
abbrev Nc:Stmt:=top 19
def zG:Ai p! p! (Ae Nc):=h_
abbrev Pk:Stmt:=top 20
def a6h:Ai dD_ dD_ (Ae Pk):=h_
abbrev Mt:Stmt:=top 21
def a6g:Ai p! p! (Ae Mt):=h_
abbrev Oq:Stmt:=top 22
def a2j:Ai p! p! (Ae Oq):=h_
abbrev Jt:Stmt:=top 24
def zH:Ai f8_ f8_ (Ae Jt):=h_
abbrev Po:Stmt:=top 25
def a6l:Ai p! p! (Ae Po):=h_
abbrev Kc:Stmt:=top 26
def rY:Ai p! p! (Ae Kc):=h_
abbrev Jc:Stmt:=top 27
def pW:Ai bm_ bm_ (Ae Jc):=h_
abbrev Ot:Stmt:=top 28
def a2l:Ai aV! aV! (Ae Ot):=h_
abbrev Rf:Stmt:=Li 30 0
def b2d:Ai [K_] [K_] (Ae Rf):=h_
abbrev Nf:Stmt:=Li 30 1
def zI:Ai ar! ar! (Ae Nf):=h_
abbrev Ik:Stmt:=Li 30 2
def fL:Ai sF! mz_ (Ae Ik):=h_
abbrev Kd:Stmt:=Li 30 3
def gQ:Ai sF_ ar! (Ae Kd):=h_
abbrev Ml:Stmt:=Li 31 0
def vY:Ai [K_] [K_] (Ae Ml):=h_
abbrev Kx:Stmt:=Li 31 1
def tO:Ai ar! ar! (Ae Kx):=h_
abbrev Hk:Stmt:=Li 31 2
def mQ:Ai ar! ar! (Ae Hk):=h_
abbrev Gz:Stmt:=Li 31 3
def gE:Ai f9! f9! (Ae Gz):=h_
abbrev Kw:Stmt:=Li 31 4
def kZ:Ai sG_ cT_ (Ae Kw):=h_
abbrev Hl:Stmt:=Li 31 5
def mR:Ai f9_ f9_ (Ae Hl):=h_
abbrev Ke:Stmt:=Li 31 6
def rZ:Ai cT_ cT_ (Ae Ke):=h_
abbrev Je:Stmt:=Li 31 7
def dG:Ai sI_ mA! (Ae Je):=h_
abbrev Ky:Stmt:=Li 31 8
def iF:Ai sJ! mB! (Ae Ky):=h_
abbrev Gn:Stmt:=Li 31 9
def kP:Ai ga! ga! (Ae Gn):=h_
abbrev Go:Stmt:=Li 31 14
def kQ:Ai ga_ ga_ (Ae Go):=h_
abbrev Ht:Stmt:=top 33
def nA:Ai bm_ bm_ (Ae Ht):=h_
abbrev Mi:Stmt:=top 34
def iW:Ai sK! aV! (Ae Mi):=h_
abbrev Ra:Stmt:=top 35
def jJ:Ai sK_ aV! (Ae Ra):=h_
abbrev Uv:Stmt:=top 36
def c1k:Ai gb! gb! (Ae Uv):=h_
abbrev Rb:Stmt:=top 37
def jK:Ai sL! aV! (Ae Rb):=h_
abbrev Py:Stmt:=Li 40 0
def a6m:Ai gb_ gb_ (Ae Py):=h_
abbrev Nh:Stmt:=Li 40 1
def zK:Ai gc! gc! (Ae Nh):=h_
abbrev Nd:Stmt:=top 41
def jU:Ai [R!,ev_,cT!] ar_ (Ae Nd):=h_
abbrev Mg:Stmt:=top 42
def vW:Ai ar_ ar_ (Ae Mg):=h_
abbrev Na:Stmt:=top 43
def zD:Ai as! as! (Ae Na):=h_
abbrev Pl:Stmt:=top 44
def a6i:Ai as! as! (Ae Pl):=h_
abbrev Nb:Stmt:=top 45
def zF:Ai gc_ gc_ (Ae Nb):=h_
abbrev Jd:Stmt:=top 46
def dF:Ai sN! bA_ (Ae Jd):=h_
abbrev Kv:Stmt:=top 47
def fK:Ai sN_ mC_ (Ae Kv):=h_
abbrev Gp:Stmt:=top 48
def pX:Ai bA_ bA_ (Ae Gp):=h_
abbrev Re:Stmt:=top 49
def b2c:Ai as! as! (Ae Re):=h_
abbrev Em:Stmt:=top 50
def dL:Ai sO! ar_ (Ae Em):=h_
abbrev Pj:Stmt:=top 51
def tM:Ai sP! as! (Ae Pj):=h_
abbrev Uu:Stmt:=top 52
def sE:Ai sP_ bA_ (Ae Uu):=h_
abbrev Rn:Stmt:=top 53
def a9l:Ai sQ! mE! (Ae Rn):=h_
abbrev Gy:Stmt:=top 55
def gD:Ai [R!,aM!,iL_] mE_ (Ae Gy):=h_
abbrev Gc:Stmt:=top 56
def jT:Ai bV! bV! (Ae Gc):=h_
abbrev Rc:Stmt:=top 57
def b2b:Ai bV! bV! (Ae Rc):=h_
abbrev Js:Stmt:=top 59
def zE:Ai ar_ ar_ (Ae Js):=h_
abbrev Uw:Stmt:=top 60
def a9k:Ai sQ_ mF! (Ae Uw):=h_
abbrev Ss:Stmt:=top 61
def b4w:Ai gd! gd! (Ae Ss):=h_
abbrev Sx:Stmt:=top 63
def b4z:Ai cU! cU! (Ae Sx):=h_
abbrev Uy:Stmt:=top 64
def zJ:Ai sR_ cU! (Ae Uy):=h_
abbrev Oc:Stmt:=top 67
def b2e:Ai az! az! (Ae Oc):=h_
abbrev Rh:Stmt:=top 68
def mG:Ai sS! az! (Ae Rh):=h_
abbrev Pq:Stmt:=top 69
def a2m:Ai sT! mG! (Ae Pq):=h_
abbrev Sv:Stmt:=top 70
def b4x:Ai gd_ gd_ (Ae Sv):=h_
abbrev Px:Stmt:=top 71
def eV:Ai sV! mH_ (Ae Px):=h_
abbrev Rg:Stmt:=top 72
def fG:Ai sV_ mI_ (Ae Rg):=h_
abbrev Ou:Stmt:=top 73
def gF:Ai sW! az! (Ae Ou):=h_
abbrev Pp:Stmt:=top 74
def nB:Ai sW_ az! (Ae Pp):=h_
abbrev Pt:Stmt:=top 75
def jL:Ai sY! cW! (Ae Pt):=h_
abbrev Ps:Stmt:=top 76
def tP:Ai sY_ mJ! (Ae Ps):=h_
abbrev Sw:Stmt:=top 77
def b4y:Ai cW! cW! (Ae Sw):=h_
abbrev Pw:Stmt:=top 78
def iG:Ai sZ! mL! (Ae Pw):=h_
abbrev Su:Stmt:=top 79
def nX:Ai sZ_ az! (Ae Su):=h_
abbrev Pv:Stmt:=top 83
def tQ:Ai s0! mM! (Ae Pv):=h_
abbrev Ng:Stmt:=top 85
def a2n:Ai s1! mN! (Ae Ng):=h_
abbrev Ux:Stmt:=top 86
def sF:Ai s2! mM_ (Ae Ux):=h_
abbrev Pr:Stmt:=top 87
def jV:Ai s3_ mN_ (Ae Pr):=h_
abbrev Ub:Stmt:=top 88
def eQ:Ai s4! [a7!] (Ae Ub):=h_
def Pz:Ad->Option Fl:= (Bc (Ck (Eg "int" q!) (Ck (Dl (Eg "bool" q!)) (f2 Ji (f1 Fw a8_) (f2 Fi (fC mP!) s4_)))))
def Fs:List D->Option D:=By p! 1 (Pz)
def Qb:Ad->Option Fl:= (Bc (Ck (f1 Fs a8_) (Bm Ie Ji G! q! w!)))
def Gu:List D->Option D:=By f8! 2 (Qb)
def Mm:Ad->Option Fl:= (Bc (Ck (f1 Fs a8_) (f2 Nl q! w_)))
def Dq:List D->Option D:=By p! 1 (Mm)
def Od:Ad->Option Fl:= (sSeq (Ge (Lz iQ_ (fT (f2 Lh dF_ aM_))) cY! Cj) (Bc (Ck (f1 Gu (Ac aE_ (Ac eB_ Ag))) (f1 Dq (Ac gf_ Ag)))))
def Dw:List D->Option D:=By p! 1 (Od)
def Kz:Ad->Option Fl:= (sSeq (Ge (Lz iQ_ (fT (f2 Lh dF_ az_))) cY! Cj) (Bc (Ck s7_ (f1 Gu (Ac eC_ (Ac eB_ Ag))))))
def Dv:List D->Option D:=By p! 1 (Kz)
def Ls:Ad->Option Fl:= (Bc (Ep (f1 Dw a8_) (Ep (f2 Bb q! iR!) (f2 Bb q! (fC gg_)))))
def Gs:List D->Option D:=By p! 1 (Ls)
def Ju:Ad->Option Fl:= (Bc (Ep s9_ (f1 Dw a8_)))
def Fa:List D->Option D:=By p! 1 (Ju)
def Lb:Ad->Option Fl:= (Bc (Ep s9_ (f1 Dv a8_)))
def Fu:List D->Option D:=By p! 1 (Lb)
def Rk:Ad->Option Fl:= (Bc (Ck (Bm Ie Ie (fC (.str " ")) q! (fC (.str "~"))) (f2 Lh (f1 Yc a8_) (fC (.int 37)))))
def Gq:List D->Option D:=By dD_ 1 (Rk)
def Rj:Ad->Option Fl:= (sSeq (Ge (Lz (Cr (fT (Eg "str" q!))) (Cr (fT (Bm Ie Ie w_ dF_ eB_)))) cY! Cj) (Bc (f1 Qr (Ac (Fv 1 [] (Zy q!) L! aV_ iR_) Ag))))
def Jl:List D->Option D:=By p! 1 (Rj)
def Qa:Ad->Option Fl:= (Bc (f1 Gu (Ac q! (Ac eE_ Ag))))
def Dp:List D->Option D:=By p! 1 (Qa)
def Hq(t:Ar):List b5!:=[("put",.tup [dG!,.fn t.A7]),("move",.tup [dG!,dG!,.fn t.A7]),("drop",.tup [dG!]),("write",.tup [dG!,.fn t.A8,.fn t.A9]),("cut",.tup tg!),("set",.tup [dG!,.fn t.B2,.fn t.B3]),("undo",.tup [.fn t.B4]),("redo",.tup [.fn t.B4])]
def Kr(t:Ar):Addr->Option w9_:=λa=>if a=t.A0 then some Gs else if a=t.A7 then some Fa else if a=t.A8 then some Fu else if a=t.A9 then some Jl else if a=t.B0 then some Dv else if a=t.B1 then some Dq else if a=t.B2 then some Dp else if a=t.B3 then some Fs else if a=t.B4 then some Dw else none
def Ov(t:Ar):Ad->Option Fl:= (sSeq (Ge (fT (f2 Lh dF_ mU!)) cY! Cj) (Bc (f1 Qr (Ac (Fv 2 [] (Zx w! q!) iU! aV_ iU_) Ag))))
def He(t:Ar):List D->Option D:=By f8_ 2 (Ov t)
def Oe(t:Ar):Ad->Option Fl:= (sSeq (Ge (Lz iQ_ (fT (f2 Bb dF_ G!))) cY! Cj) (sSeq (Ge (Lz (Cr (fT (Eg "str" aE_))) (fT (Yd gj_ true aE_))) cY! Cj) (sSeq (Ge (Cr (fT (f1 (He t) (Ac (Fd q! (Av w_) Aw) (Ac (Vg gj_ aE_) Ag))))) cY! Cj) (Bc (Ep (f2 Lh aE_ (fC dH!)) (f2 Ie (f2 An (f2 Aj eC_ aM_) mU_) eB_))))))
def Hr(t:Ar):List D->Option D:=By p! 1 (Oe t)
def La(t:Ar):Ad->Option Fl:= (sSeq (Ge (Lz iQ_ (fT (f2 Lh dF_ eE_))) cY! Cj) (Bc (Ck s7_ (Ck (f1 Dq (Ac eC_ Ag)) (f1 (Hr t) (Ac mU_ Ag))))))
def Bu(t:Ar):List D->Option D:=By p! 1 (La t)
def Kf:Ad->Option Fl:= (Bc (Au (Ac eC_ (Ac aE_ Ag))))
def Ct:List D->Option D:=By bm_ 1 (Kf)
def Qc:Ad->Option Fl:= (Bc (Uj Ct q!))
def Dg:List D->Option D:=By aV! 1 (Qc)
def Wr(t:Ar):WS:= (Ah (Ga t.B7 "following" l! tl!) (Ga t.B7 "preceding" l! tl!))
def Gj(t:Ar):WF:=Ci [K_] 1 (Wr t)
def Ld(t:Ar):WS:= (Bj (Ka (wl iV_) (w2 bp! t_ eG!)))
def Hf(t:Ar):WF:=Ci ar! 2 (Ld t)
def Jg(t:Ar):WS:= (Ah (Am 3 (Zi (wT (Bd t.B7 "holds" 2 (Hf t) l! dI_)) D! bW_)) (Ah (Am 4 (w2 Ce eG! aN!)) (Ah (Bx eG! aN! t_) (Ah (Bx iW_ t_ aN!) (Ah (Bx eG! t_ aN_) (Bx iW_ aN_ t_))))))
def Cm(t:Ar):WF:=Ci sF! 3 (Jg t)
def Lc(t:Ar):WS:= (Ah (Am 2 (Xl iW_ t_)) (Ah (Am 3 (Xl eG! t_)) (Ah (Bx eG! D! aN!) (Bx iW_ aN! D!))))
def Hz(t:Ar):WF:=Ci sF_ 2 (Lc t)
def Rw(t:Ar):WS:= (Ah (Ga t.B6 "parents" l! (On (Eb (wl iR!) bW_ (Eb iY_ bW_ My)))) (Ah (Ga t.B6 "rows" l! (On (Eb (wl iR!) gl_ (Eb iY_ gl_ My)))) (Ah (Ga t.B6 "texts" l! Gm) (Ah (Ga t.B6 "numbers" l! Gm) (Ah (Ga t.B6 "written" l! Gm) (Ga t.B6 "hidden" l! Gm))))))
def Hn(t:Ar):WF:=Ci [K_] 1 (Rw t)
def Mn(t:Ar):WS:= (Bj (w2 bp! t_ dJ_))
def Ek(t:Ar):WF:=Ci ar! 2 (Mn t)
def Hu(t:Ar):WS:= (Bj (w2 bp! t_ gm!))
def Bh(t:Ar):WF:=Ci ar! 2 (Hu t)
def Ma(t:Ar):WS:= (Ah (Kt gm_ gn!) (Bj (wl iV_)))
def Fg(t:Ar):WF:=Ci f9! 3 (Ma t)
def Qw(t:Ar):WS:= (Ah (Am 4 (Zi (wT tr!) D! iY_)) (Ah tr_ (Ah ts_ (Ah tt! (Ah tt_ tu_)))))
def Iy(t:Ar):WF:=Ci sG_ 4 (Qw t)
def Hv(t:Ar):WS:= (Bj (Ka m3_ (Ka tr! (Wc (Bd t.B6 "is_within" 3 (Fg t) l! (Ab D! bX_))))))
def Ee(t:Ar):WF:=Ci f9_ 3 (Hv t)
def Qd(t:Ar):WS:= (Ah tx_ (Ah (Bq (Bd t.B7 "take_out" 2 (Hz t) (w2 Ce dJ_ m0_) bX_)) (Ah (Bq (Bd t.B7 "put_behind" 3 (Cm t) (w2 Ce dJ_ D!) m1_)) (Bx m0! t_ D!))))
def Gk(t:Ar):WF:=Ci cT_ 4 (Qd t)
def Kg(t:Ar):WS:= (Ah (As (Kl (wT (Bd t.B6 "has_item" 2 (Bh t) l! dI_))) Om Bp) (Ah (Am 5 aN!) (Ec (Ja (Sb N!)) (Vh 6 7) (Ah m4_ (Ah tA! (Ah tB! (Am 5 dK!)))))))
def Hi(t:Ar):WF:=Ci sI_ 5 (Kg t)
def Mo(t:Ar):WS:= (Ah (As (Kl (wT m3_)) Om Bp) (Ec (Ja (Sa eI! tC_)) gq_ (Ah tD! tE!)))
def Iz(t:Ar):WF:=Ci sJ! 4 (Mo t)
def Lf(t:Ar):WS:= (As (wT m3_) (Bx tF! D! aN!) Bp)
def Eu(t:Ar):WF:=Ci ga! 4 (Lf t)
def Hb(t:Ar):WS:= (Bj (w1 Vd (Ab tF! Af)))
def Dk(t:Ar):WF:=Ci ga_ 2 (Hb t)
def Nj:Ad->Option Fl:= (Bc (Ep (f2 Bb i3! i3_) (f2 Bb i3! (fC m7!))))
def At:List D->Option D:=By bm_ 1 (Nj)
def Rv:WS:= (Ah (Am 1 Gm) (Ah (Ec (Ja (Ei i4!)) bD! tG_) c1_))
def Gi:WF:=Ci sK! 1 (Rv)
def Wm:WS:= (Ah (Am 1 (Ao 1 Gi aX_)) (Ah m7_ (Ah (Ec jq! al_ i6_) eJ_)))
def Ll:WF:=Ci sK_ 1 (Wm)
def Zs(t:Ar):WS:= (As tL! (Bq (Bd t.B6 "put" 4 (Iy t) l! (Ab t_ (Ab c2_ (Ab i8! Af))))) (As tL_ (Bq (Bd t.B6 "move" 4 (Gk t) l! gt!)) (As tM_ (Bq (Bd t.B6 "move" 4 (Gk t) l! tN!)) (As tN_ (Bq (Bd t.B6 "write" 5 (Hi t) l! (Ab t_ gt!))) (As tP! (Bq (Bd t.B6 "cut" 4 (Iz t) l! gt!)) (As tR! (Bq (Bd t.B6 "set_number" 4 (Eu t) l! gt!)) Bp))))))
def Mv(t:Ar):WF:=Ci gb! 3 (Zs t)
def Wo(t:Ar):WS:= (Ah tS! (Ah (Am 2 (Ao 1 Ll aX_)) (Ah (Ec (Ja (Ei i4!)) al_ (Ah gs! tU_)) c1_)))
def Jk(t:Ar):WF:=Ci sL! 1 (Wo t)
def Vq(t:Ar):WS:= (Ah (Ga t.B5 "ours" l! t_) (Ah (Ga t.B5 "taken" l! Gm) (Ah (Ga t.B5 "waiting" l! (Qy Af)) tV!)))
def Oi(t:Ar):WF:=Ci gb_ 2 (Vq t)
def Tg(t:Ar):WS:= (Bj (w1 Vs (Ab (Hs c3! t_ nb_) Af)))
def Ev(t:Ar):WF:=Ci gc! 2 (Tg t)
def Td(t:Ar):WS:= (Ah nc! (Ah (Ec (Ph c3!) bD! (Xm 1 nd!)) tY!))
def Et(t:Ar):WF:=Ci [R!,ev_,cT!] 1 (Td t)
def Ru(t:Ar):WS:= (Ah tY_ (Bj nd_))
def Ez(t:Ar):WF:=Ci ar_ 1 (Ru t)
def Ta(t:Ar):WS:= (Bj (w2 (λ_=>Ie) jd_ t0_))
def Ft(t:Ar):WF:=Ci as! 2 (Ta t)
def Vn(t:Ar):WS:= (Bj (w2 i5! jd_ (w2 Pa t0_ gw!)))
def Gr(t:Ar):WF:=Ci as! 2 (Vn t)
def Tc(t:Ar):WS:= (Ah t2_ t3_)
def Es(t:Ar):WF:=Ci gc_ 2 (Tc t)
def Oy(t:Ar):WS:= (Ah m7_ (Ah (Ec (Fz (w2 Pa gx! t_)) al_ (Ah gs! (Ah t7_ t8_))) eJ_))
def Ej(t:Ar):WF:=Ci sN! 2 (Oy t)
def Qv(t:Ar):WS:= (Ah m7_ (Ec (Fz (w1 Ro bX_)) al_ (Ah t9_ (Ah uc_ uc!))))
def Iw(t:Ar):WF:=Ci sN_ 2 (Qv t)
def Oz(t:Ar):WS:= (Ah (As (Dd (Cr ue!)) Jr Bp) (Bq (Ao 2 (Iw t) (Ab l! (Ab (Ao 2 (Ej t) dN_) Af)))))
def Fm(t:Ar):WF:=Ci bA_ 2 (Oz t)
def Wq(t:Ar):WS:= (Ah (Bq (Ut (Jq c3! je! (Qy Af)) t_)) tV!)
def Jm(t:Ar):WF:=Ci as! 2 (Wq t)
def Of(t:Ar):WS:= (Ah (Am 1 aO!) (Ah uf_ (Ah (Kt (Dd (fT (f2 Ks (f1 Bi bD_) G!))) (Ah Jr (Ah (Bq (Ao 2 (Jm t) (Ab l! (Ab (wl bq!) Af)))) (Ah (So 1 gw!) uf_)))) c1_)))
def Fb(t:Ar):WF:=Ci sO! 1 (Of t)
def Vm(t:Ar):WS:= (Ah uh! (Ah (Am 2 (Wb (Ao 2 (Ft t) dN_) (w2 bp! t_ gx!))) (Ah (As (Fp (Dd (Cr (fT C_))) (wT (w2 (λ_=>Ji) (w1 Vs (Ab gx! Af)) (wl (fC (.int 8)))))) (Bq (Ut gx! t_)) Bp) (Bj aO!))))
def Jj(t:Ar):WF:=Ci sP! 2 (Vm t)
def Zr(t:Ar):WS:= (Ah uj! (Ah (Am 2 aO!) (Ah (Ec nk! al_ (So 2 uj_)) eJ_)))
def Uh(t:Ar):WF:=Ci sP_ 2 (Zr t)
def Zu(t:Ar):WS:= (Ah (Am 2 (Ur t_)) (Bj (Da 1 [2] (Fz ne_) L! (wT (w2 (λ_=>Ks) (wl gf_) (Hs t_ (wl aE_) aO!))) l!)))
def Se(t:Ar):WF:=Ci sQ! 2 (Zu t)
def Ha(t:Ar)(E:EK):WS:= (Ah uk_ um!)
def Dj(t:Ar):Xa:=λds M R E=>Ci [R!,aM!,iL_] 2 (Ha t E) ds M R
def Gg(t:Ar)(E:EK):WS:= (Ah uo! up!)
def Cg(t:Ar):Xa:=λds M R E=>Ci bV! 3 (Gg t E) ds M R
def Ri(t:Ar)(E:EK):WS:= (Bj uq_)
def Oh(t:Ar):Xa:=λds M R E=>Ci bV! 3 (Ri t E) ds M R
def Tb(t:Ar):WS:= (Bj (w2 Pa gw! (w1 (λ_=>Ry) (Ab ur_ Af))))
def Im(t:Ar):WF:=Ci ar_ 1 (Tb t)
def Zt(t:Ar):WS:= (Ah (Am 2 (Rm (Ab ng_ (Ab (w2 Pa (Bd t.B5 "have" 2 gv_ l! (Ab ng_ Af)) gw!) Af)))) (Ah (Bq (Ao 2 (Jm t) (Ab l! (Ab us! Af)))) eJ_))
def Ui(t:Ar):WF:=Ci sQ_ 2 (Zt t)
def Sz(t:Ar)(E:EK):WS:= (Ah (Bq uq!) (Bj (Ao 2 (Ui t) (Ab l! (Ab (wl (Au (Ac i9_ (Ac w! (Ac C_ dL!))))) Af)))))
def Tl(t:Ar):Xa:=λds M R E=>Ci gd! 4 (Sz t E) ds M R
def Rx:Ad->Option Fl:= (sSeq (Ge (λρ=>((q!) ρ).bind Vl) us_ Cj) (Bc G!))
def Jy:List D->Option D:=By cU! 2 (Rx)
def Ws:Ad->Option Fl:= (sSeq (Cd 2 (f2 Bo (f2 An (f1 Jy (Ac q! dG_)) (f2 De (fC (.int 104729)) ut!)) (fC (.int 4294967291)))) (sSeq (Cd 2 (f2 Bo (f2 De C_ (fC (.int 48271))) (fC (.int 4294967279)))) (Bc (f2 Bo (f2 An (f2 De (f2 Bz C_ (fC (.int 64))) (fC (.int 69621))) C_) (fC (.int 4294967231))))))
def Bn:List D->Option D:=By sR_ 2 (Ws)
def Tf:Ad->Option Fl:= (Bc (f2 An (f2 An (fC (.lst [mR_])) (Fv 1 [] eI_ L! (fT nr!) (Au gB_))) (fC (.lst [gg_,(.tup [gC!,gC!])]))))
def Ia:List D->Option D:=By az! 1 (Tf)
def Te:Ad->Option Fl:= (sSeq (Ni 1 (Ac ct! (Ac (fC (.tup [gC!,gC!,bo!])) Ag))) (sSeq (Qu eI_ bD! (Ge ut_ uv! Cj)) (Bc w!)))
def Lm:List D->Option D:=By sS! 1 (Te)
def Va:Ad->Option Fl:= (sSeq (Cd 2 (fC (.str " abcXYZ.,;!019~[]\\\"'|{}<>@#$&*()-+/=_^:?`"))) (Bc (Ww (fC (.str "")) (Fv 1 [0,2] (Fj nr_) L! aV_ ux_))))
def Nm:List D->Option D:=By sT! 2 (Va)
def Vc:Ad->Option Fl:= us_
def Cz:List D->Option D:=By gd_ 2 (Vc)
def Pe:Ad->Option Fl:= (sSeq uz! (sSeq uz_ (sSeq uA! (sSeq uB_ (sSeq uC! (sSeq uD! (sSeq uE! (sSeq uF_ (sSeq uH_ (sSeq uJ! (sSeq uJ_ (sSeq uL! (sSeq uN_ (sSeq uR! (sSeq uS! uS_)))))))))))))))
def Jx:List D->Option D:=By sV! 4 (Pe)
def Qe:Ad->Option Fl:= (sSeq (Ni 3 Ag) (sSeq (Ni 4 jm_) (sSeq (Ni 5 jm_) (sSeq (Qu (Fj C_) gE! (sSeq uV_ (sSeq uW_ (sSeq uX! (sSeq uX_ (sSeq uY! uY_)))))) (Bc D_)))))
def Jn:List D->Option D:=By sV_ 3 (Qe)
def Ud:WS:= (Ah nc! (Ah (Ec jq! bD! (Ah u0_ (Ah (Kt (Dd (Co u1! u1_)) nz_) u2!))) c1_))
def Ef:WF:=Ci sW! 1 (Ud)
def Vo:WS:= (Ah (Am 1 Gm) (Ah (Ec nA! bD! (As u4! u4_ Bp)) c1_))
def Lu:WF:=Ci sW_ 1 (Vo)
def Xy:WS:= (Ah (Am 4 (Da 1 [1] u5_ L! (Dd (fT nA_)) l!)) (Ah (Am 5 aO!) (Ah (Kt (Dd (Co u6! u7!)) u7_) (Ah (Ec (Ja (Fj gH!)) gE! (As va_ vb! Bp)) (Bx l! jp! (wl (f2 An vc_ vd!)))))))
def Ip:WF:=Ci sY! 4 (Xy)
def Xx:WS:= (Ah (Kt (Dd i1!) (Ah vf! (Ah vg! (Am 1 gy_)))) (Bj gr!))
def Lx:WF:=Ci sY_ 3 (Xx)
def Xw:WS:= (As (Fp (wT (w2 bp! t_ bG!)) (Zh (wT (w2 bp! D! bG!)) (wT (w2 bp! D! vh!)))) (As vi_ vj_ Bp) Bp)
def Io:WF:=Ci cW! 4 (Xw)
def Wt:WS:= (Ah nE! (Ah nE_ (As tL! (Ah vl! (Ah vl_ (Ah vm! vm_))) (As tL_ nG! (As tM_ nG_ (As (Fp tR! (wT gJ_)) vp_ (As (Fp tN_ (wT gJ_)) (Ah js! (Ah (Am 6 aO!) (Ah (Ec vq_ (Cq 7) vs_) (Ah (Am 8 nH!) vw!)))) (As (Fp tP! (wT gJ_)) (Ah (Am 9 nI!) (Ah js! vz!)) Bp))))))))
def Vf:WF:=Ci sZ! 2 (Wt)
def Vb:WS:= (Ah vA_ (Ah vB! (Ah (Ec nA! al_ (As (Fp vB_ vD!) vE! Bp)) c1_)))
def Lw:WF:=Ci sZ_ 1 (Vb)
def Xz(t:Ar):WS:= (Ah (Am 4 vF_) (Ah (Am 5 (Hj t.B5 2 (Oi t) dI_)) (Ah (Bq (Ao 2 (Uh t) vG_)) (Bj (Rm vG_)))))
def Pg(t:Ar):WF:=Ci s0! 4 (Xz t)
def Xv:WS:= (Ah (Am 3 vH!) (Bj (wl (Au (Ac w! (Ac (f2 An w_ vH_) (Ac (f2 An w_ vI!) bD_)))))))
def Pf:WF:=Ci s1! 3 (Xv)
def Zv(t:Ar):WS:= (Ah (Am 4 bW_) (Ah (Wa 6 4 vK! λE=>Am 4 (Gb 4 (Tl t) E nD_)) (Bj aN_)))
def Qm(t:Ar):WF:=Ci s2! 4 (Zv t)
def Vp(t:Ar):WS:= (Ah (Am 3 bW_) (Ah (Wa 5 3 vK! λE=>Am 3 (Gb 3 (Oh t) E up_)) (Bj aN!)))
def Jo(t:Ar):WF:=Ci s3_ 3 (Vp t)
def Wp(t:Ar):WS:= (Ah vM_ (Ah (Am 2 je!) (Ah (Am 3 jd_) (Ah (Ec (Ja (Fj nK_)) gq_ (Ah vO_ (Ah vP_ (Ah vR! (Ah (Am 8 nM_) (Ah vS! (Ah vS_ (Ah (As (wT (w2 Vr vT_ (wl dO!))) eV_ Bp) (Ah (Am 10 nN_) (Ah (As gN_ (Ah vU! (Ah vU_ vV!)) Bp) (Ah vW! (Ah vW_ (As (Fp gN_ (wT (w2 Vr vT_ vX_))) eV_ Bp))))))))))))) (Bj gr!)))))
def Yy(t:Ar):WF:=Ci s4! 1 (Wp t)
structure Txt(P:z7!)(w:yO!)(K:zY!)(mg:x!)(t:Ar):Prop where
 D3:Fo K mg "is_whole" Oo p!
 D4:Fo K mg "is_below" Os f8!
 D5:Fo K mg "is_from_one" Ku p!
 D6:Fo K mg "is_name" Pm p!
 D7:Fo K mg "is_sign_name" Kb p!
 D8:Fo K mg "is_item" Pn p!
 D9:Fo K mg "is_sibling" Mj p!
 E1:Fo K mg "is_behind" Nc p!
 E2:Fo K mg "is_sign" Pk dD_
 E3:Fo K mg "is_text" Mt p!
 E4:Fo K mg "is_place" Oq p!
 E5:Fo K mg "are_parts" Jt f8_
 E6:Fo K mg "is_deed" Po p!
 E7:Fo K mg "is_operation" Kc p!
 E8:Fo K mg "time_and_hand" Jc bm_
 E9:Fo K mg "in_order" Ot aV!
 F6:Tt K mg "Row" t.B7 "Row.__init__" Rf [K_]
 F7:Dt K t.B7 "holds" "Row.holds" Nf ar!
 F8:Dt K t.B7 "put_behind" "Row.put_behind" Ik mz_
 F9:Dt K t.B7 "take_out" "Row.take_out" Kd ar!
 G6:Tt K mg "Outline" t.B6 "Outline.__init__" Ml [K_]
 G7:Dt K t.B6 "has" "Outline.has" Kx ar!
 G8:Dt K t.B6 "has_item" "Outline.has_item" Hk ar!
 G9:Dt K t.B6 "is_within" "Outline.is_within" Gz f9!
 H9:Dt K t.B6 "put" "Outline.put" Kw cT_
 J0:Dt K t.B6 "can_move" "Outline.can_move" Hl f9_
 J4:Dt K t.B6 "move" "Outline.move" Ke cT_
 J5:Dt K t.B6 "write" "Outline.write" Je mA!
 J6:Dt K t.B6 "cut" "Outline.cut" Ky mB!
 J7:Dt K t.B6 "set_number" "Outline.set_number" Gn ga!
 J8:Dt K t.B6 "numbers_of" "Outline.numbers_of" Go ga_
 J9:Fo K mg "is_undo_or_redo" Ht bm_
 K0:Fo K mg "last_words" Mi aV!
 K3:Fo K mg "undone" Ra aV!
 K4:Fo K mg "play" Uv gb!
 K5:Fo K mg "played" Rb aV!
 K6:Tt K mg "Hand" t.B5 "Hand.__init__" Py gb_
 K7:Dt K t.B5 "have" "Hand.have" Nh gc!
 K8:Fo K mg "all_taken" Nd ar_
 K9:Fo K mg "outline_of" Mg ar_
 L4:Fo K mg "was_taken" Na as!
 L5:Fo K mg "is_next" Pl as!
 L6:Fo K mg "last_time" Nb gc_
 L7:Fo K mg "not_yet_taken" Jd bA_
 L8:Fo K mg "check_times" Kv mC_
 L9:Fo K mg "check_message" Gp bA_
 M9:Fo K mg "accept" Re as!
 N0:Fo K mg "accept_waiting" Em ar_
 N3:Fo K mg "receive" Pj as!
 N4:Fo K mg "take" Uu bA_
 N5:Fo K mg "give" Rn mE!
 N6:Fo K mg "outline_with_item" Gy mE_
 N7:Fo K mg "outline_with_number" Gc bV!
 N8:Fo K mg "number" Rc bV!
 N9:Fo K mg "next_time" Js ar_
 O0:Fo K mg "make" Uw mF!
 O3:Fo K mg "place" Ss gd!
 O4:Fo K mg "_law_cell" Sx cU!
 O5:Fo K mg "_law_mix" Uy cU!
 O6:Fo K mg "_law_items" Oc az!
 O7:Fo K mg "_law_signs" Rh az!
 O8:Fo K mg "_law_text" Pq mG!
 O9:Fo K mg "_law_pick" Sv gd_
 P0:Fo K mg "_law_deed" Px mH_
 P1:Fo K mg "_law_world" Rg mI_
 P3:Fo K mg "_law_ordered" Ou az!
 P4:Fo K mg "_law_undone" Pp az!
 P5:Fo K mg "_law_hang" Pt cW!
 P6:Fo K mg "_law_lies" Ps mJ!
 P7:Fo K mg "_law_move" Sw cW!
 P8:Fo K mg "_law_do" Pw mL!
 P9:Fo K mg "_law_play" Su az!
 Q0:Fo K mg "_law_hand" Pv mM!
 Q1:Fo K mg "_law_next" Ng mN!
 Q2:Fo K mg "_law_try" Ux mM_
 Q3:Fo K mg "_law_number" Pr mN_
 Q4:Fo K mg "law" Ub [a7!]
 Q5:mg "abs"=none
 Q6:mg "all"=none
 Q7:mg "bool"=none
 Q8:mg "dict"=none
 Q9:mg "enumerate"=none
 R0:mg "int"=none
 R3:mg "isinstance"=none
 R4:mg "len"=none
 R5:mg "list"=none
 R6:mg "max"=none
 R7:mg "ord"=none
 R8:mg "range"=none
 R9:mg "sorted"=none
 S0:mg "str"=none
 S1:mg "tuple"=none
 S2:mg "zip"=none
 S3:∃tk,mg "HANDS"=some (.int 16 tk)
 S4:∃tk,mg "SIGNS"=some (.int 16 tk)
 S5:∃tk,mg "PLACES"=some (.int 4 tk)
 S6:∃tk,mg "LEFT_OUT"=some (.int 37 tk)
 S7:∃tk,mg "MOST_WAITING"=some (.int 8 tk)
 S8:mg "is_item"=some (.ref t.A0)
 S9:mg "is_sibling"=some (.ref t.A7)
 T0:mg "is_behind"=some (.ref t.A8)
 T1:mg "is_text"=some (.ref t.A9)
 T2:mg "is_sign_name"=some (.ref t.B0)
 T3:mg "is_from_one"=some (.ref t.B1)
 T4:mg "is_place"=some (.ref t.B2)
 T5:mg "is_whole"=some (.ref t.B3)
 T6:mg "is_name"=some (.ref t.B4)
 T7:Ua K t.B5
 T8:Ua K t.B6
 T9:Ua K t.B7
 U0:mg "HandsError"=some (.ref nP_)
 U1:mg "NotThere"=some v1_
 U2:XS.AU K t.NotThere
 U3:XS.Ym K nP_
 U4:W.subIn K v1_ (.ref nP_)=some true
 U5:Dx K t.B7 "following"
 U6:Dx K t.B7 "preceding"
 U7:Dx K t.B6 "parents"
 U8:Dx K t.B6 "rows"
 U9:Dx K t.B6 "texts"
 V0:Dx K t.B6 "numbers"
 V1:Dx K t.B6 "written"
 V2:Dx K t.B6 "hidden"
 V3:Dx K t.B5 "ours"
 V4:Dx K t.B5 "taken"
 V5:Dx K t.B5 "waiting"
 V6:Dx K t.B5 "outline"
 V7:∀X:Cx,X.prog=P->X.w=w->X.K=K->X.mg=mg->Ts X "PARTS" gj_
end K22
namespace K22
open PySem L2 DL
open Classical
def iU:∀(l:j!) (d v:D),kget gQ! d=some v
 |[],d,v=>by simp[Bg,kget]
 |(k,x)::r,d,v=>by
  unfold Bg;by_cases h:k=d
  .rw[IB h];simp[kget,h]
  .rw[IF h];simp[kget,h,iU r d v]
def mW(h:d≠e):∀(l:j!) (v:D),kget gQ! e=kget l e
 |[],v=>by simp[Bg,kget,h]
 |(k,x)::r,v=>by
  unfold Bg;show"!|"
  .rw[a5!];subst hk;simp[kget,h]
  .rw[a6!];simp only[kget];rw[mW h r v]
def b8j(h:d≠e):∀(l:j!),kget gR! e=kget l e
 |[]=>rfl
 |(k,x)::r=>by
  unfold Gh;show"!|"
  .rw[a5!];subst hk;simp[kget,h]
  .rw[a6!];simp only[kget];rw[b8j h r]
def a7y:∀{l:j!} {d:D},kget l d≠none↔d∈l.map c_
 |[],d=>by simp[kget]
 |(k,x)::r,d=>by
  unfold kget;show"!|"
  .subst hk;simp
  .rw[a6!,a7y];simp[JE hk]
def a4d:∀{l:j!} {d:D},(d1_).Nodup->kget gR! d=none
 |[],d,_=>rfl
 |(k,x)::r,d,h=>by
  rw[IE,IQ]at h;unfold Gh;show"!|"
  .rw[a5!];subst hk;cases e:kget r k with
   |none=>rfl
   |some v=>exact absurd (a7y.mp kq!) h.1
  .rw[a6!];unfold kget;rw[a6!];exact a4d h.2
def b0t:∀{l:j!} {d v:D} {e:D},e∈(gQ!).map c_↔e=d\/e∈l.map c_
 |[],d,v,e=>by simp[Bg]
 |(k,x)::r,d,v,e=>by
  unfold Bg;show"!|"
  .rw[a5!];subst hk;simp
  .rw[a6!];simp only[IE,HV];rw[b0t];constructor<;>(rintro(h|h|h)<;>simp[h])
def kC:∀{l:j!} {d v:D},(d1_).Nodup->((gQ!).map c_).Nodup
 |[],d,v,_=>by simp[Bg]
 |(k,x)::r,d,v,h=>by
  rw[IE,IQ]at h;unfold Bg;show"!|"
  .rw[a5!];simp only[IE,IQ];exact h
  .rw[a6!];simp only[IE,IQ];refine⟨dh_,kC h.2⟩;obtain z|z:=b0t.mp z
   .exact hk z
   .exact h.1 z
def b8l:∀{l:j!} {d e:D},e∈(gR!).map c_->e∈l.map c_
 |[],d,e,h=>by simp[Gh]at h
 |(k,x)::r,d,e,h=>by
  unfold Gh at h;show"!|"
  .rw[a5!]at h;simp only[IE,HV];exact .inr h
  .rw[a6!]at h;simp only[IE,HV]at h ⊢;obtain h|h:=h
   .exact .inl h
   .exact .inr (b8l h)
def b8m:∀{l:j!} {d:D},(d1_).Nodup->((gR!).map c_).Nodup
 |[],d,_=>by simp[Gh]
 |(k,x)::r,d,h=>by
  rw[IE,IQ]at h;unfold Gh;show"!|"
  .rw[a5!];exact h.2
  .rw[a6!];simp only[IE,IQ];exact⟨λz=>h.1 (b8l z),b8m h.2⟩
def jF{v z:D}:kget gQ! z=if z=d then some v else kget l z:=by
 by_cases h:z=d
 .rw[IB h,h,iU]
 .rw[IF h,mW (JE h)]
def b8k{l:j!}{z:D}(nd:nQ_):kget gR! z=if z=d then none else kget l z:=by
 by_cases h:z=d
 .rw[IB h,h,a4d nd]
 .rw[IF h,b8j (JE h)]
def Rz:D->List D->D->Option D
 |a,[],z=>if z=a then some .non else none
 |a,x::r,z=>if z=a then some x else Rz x r z
nonrec def lst:D->List D->D
 |a,[]=>a
 |_,x::u=>lst x u
def sM:∀{u:b!} {a:D},lst a u∈a::u
 |[],_=>HX
 |_::_,_=>HS _ sM
def b0r:∀{u:b!} {a:D},lst a (u++[x])=x
 |[],_=>rfl
 |_::u,_=>b0r (u:=u)
def oY:∀{u:b!} {a:D},u.reverse.headD a=lst a u
 |[],_=>rfl
 |x::u,a=>by
  rw[List.reverse_cons];refine Eq.trans ?_ (oY (u:=u) (a:=x));cases u.reverse<;>rfl
def b7z:∀{l:b!},Rz a l a=some (l.headD .non)
 |[]=>IB rfl
 |_::_=>IB rfl
def c7x{z:D}(h:z≠a)(g:z≠b):∀{l:b!},Rz a l z=Rz b l z
 |[]=>(IF h).trans (IF g).symm
 |_::_=>(IF h).trans (IF g).symm
def a0l:∀{l:b!} {a z:D},Rz a l z≠none↔z∈a::l
 |[],a,z=>by unfold Rz;by_cases h:z=a<;>simp[h]
 |x::r,a,z=>by
  unfold Rz;by_cases h:z=a
  .simp[h]
  .rw[IF h,a0l,HV (a:=z) (b:=a)];simp[h]
def c7w{z:D}(h:z∉a::l):Rz a l z=none:=QF λe=>h (a0l.mp e)
def sN:∀{l:b!} {a z v:D},Rz a l z=some v->v=.non\/v∈l
 |[],a,z,v,h=>by
  unfold Rz at h;split at h
  .cases h;exact .inl rfl
  .cases h
 |x::r,a,z,v,h=>by
  unfold Rz at h;split at h
  .cases h;exact .inr HX
  .exact(sN h).imp_right (HS _)
def a7w{v:b!}:∀{u:b!} {a:D},(a::u).Nodup->Rz a X! (lst a u)=some dR!
 |[],_,_=>b7z
 |x::u,a,nd=>by
  rw[IQ]at nd;exact(IF λe:lst x u=a=>nd.1 (by rw[<-e];exact sM)).trans (a7w nd.2)
def sO{n:D}{v:b!}:∀{u:b!} {a:D},n∉a::u->(a::u).Nodup->∀z,Rz a cu! z=if z=n then some dR! else if z=lst a u then some n else Rz a X! z
 |[],a,hn,_,z=>by
  show(if z=a then some n else Rz n v z)=if z=n then _ else if z=a then _ else Rz a v z
  by_cases c:z=n
  .subst c;rw[IF λe:z=a=>hn eY_,A!,b7z]
  .rw[IF c];by_cases d:z=a
   .rw[IB d,IB d]
   .rw[IF d,IF d];exact c7x c d
 |x::u,a,hn,nd,z=>by
  rw[HV,OZ]at hn;rw[IQ]at nd;show(if z=a then some x else Rz x cu! z)=if z=n then _ else if z=lst x u then _ else(if z=a then some x else Rz x X! z)
  rw[sO hn.2 nd.2];by_cases c:z=a
  .rw[IB c,IB c,IF λe:z=n=>hn.1 (e.symm.trans c),IF λe:z=lst x u=>nd.1 (by rw[<-c,e];exact sM)]
  .rw[IF c,IF c]
structure Ib(xs:b!)(k:j!):Prop where
 f:∀z,kget k z=Rz .non xs z
 kn:(k.map c_).Nodup
 nd:(D.non::xs).Nodup
 hk:∀x∈xs,∃k,Df x=some k
def b7e{α:Type}:∀{l m:O!},l.Nodup->(∀a∈l,a∈m)->aC!<=m.length
 |[],_,_,_=>JK _
 |a::l,m,h,hs=>by
  rw[IQ]at h;have ha:=hs a HX;have:=b7e (m:=m.erase a) h.2 λb hb=>(List.mem_erase_of_ne λz:b=a=>h.1 (z▸hb)).mpr (hs b (HS _ hb));rw[List.length_erase_of_mem ha]at this;have:=List.length_pos_of_mem ha;rw[IH];omega
section
variable{xs u v:List D}{k k':List (D×D)}{n z:D}
def Ib.has(h:Ib xs k):kget k z≠none↔z∈D.non::xs:=by rw[h.f];exact a0l
def Ib.len(h:Ib xs k):jB_<=i_+1:=by have:=b7e (m:=D.non::xs) h.kn λa ha=>h.has.mp (a7y.mpr ha);simpa using this
def Ib.key(h:Ib xs k)(hz:z∈D.non::xs):∃k,Df z=some k:=by
 obtain rfl|hz:=HV.mp hz
 .exact L_
 .exact h.hk z hz
def Ib.ins(h:Ib X! k)(hn:n∉D.non::X!)(hm:∃k,Df n=some k)(kn:we!)(e:∀z,kget k' z=if z=n then some dR! else if z=lst .non u then some n else kget k z):Ib cu! k':=by
 have nd:=h.nd;show"!j";refine⟨dh_,kn,p.nodup_iff.mpr (IQ.mpr ⟨hn,nd⟩),aB!⟩
 .rw[<-LY,II,OZ]at hn;rw[e,h.f,sO hn.1 (nV!).1]
 .obtain z|z:=II.mp hx
  .exact h.hk x h9_
  .obtain rfl|z:=HV.mp z
   .exact hm
   .exact h.hk x ix!
def Ib.out(h:Ib cu! k)(kn:we!)(e:∀z,kget k' z=if z=lst .non u then some dR! else if z=n then none else kget k z):Ib X! k':=by
 show"!j";have nd:=IQ.mp (p.nodup_iff.mp h.nd);show"#7";rw[<-LY]at n2;have nu:=(JL.mp n2).1;refine⟨dh_,kn,nd.2,λx hx=>h.hk x (II.mpr ((nW!).imp_right (HS _)))⟩;rw[e,h.f,sO n1.1 nu];by_cases c:z=lst .non u
 .rw[IB c,c,a7w nu]
 .rw[IF c];by_cases d:z=n
  .rw[IB d,d,c7w nd.1]
  .rw[IF d,IF d,IF c]
end
def a2q:Ib [] nW_:=⟨λz=>by show(if D.non=z then _ else _)=if z=D.non then _ else _;simp only[eq_comm];rfl,Q!,Q!,λ_ h=>by cases h⟩
def jQ{α β:Type}:∀{l:List (α×β)} {a:α} {b c:β},(d1_).Nodup->dj_∈l->(a,c)∈l->b=c
 |[],_,_,_,_,h,_=>by cases h
 |(x,y)::r,a,b,c,nd,J,h2=>by
  rw[IE,IQ]at nd;obtain z|z:=HV.mp J<;>obtain w|w:=HV.mp h2
  .cases z;cases w;rfl
  .cases z;exact absurd (IM (f:=c_) w) nd.1
  .cases w;exact absurd wh! nd.1
  .exact jQ nd.2 z w
def Wv(n a:D):List D->List D
 |[]=>[]
 |x::r=>if x=a then x::n::r else x::Wv n a r
def Nk(n a:D)(xs:b!):List D:=if a∈xs then Wv n a xs else n::xs
def kE{n:D}:∀{u v:b!},a∉u->Wv n a (u++a::v)=u++a::n::v
 |[],v,_=>by simp[Wv]
 |x::u,v,h=>by
  rw[HV,OZ]at h;simp only[LY,Wv];rw[kI_,kE h.2]
def jH{α:Type}{a:α}:∀{l:O!},a∈l->∃u v,l=u++a::v/\a∉u
 |x::r,h=>by
  by_cases e:a=x
  .exact⟨[],r,by rw[e];rfl,Q!⟩
  .obtain⟨u,v,rfl,hu⟩:=jH ((HV.mp h).resolve_left e);exact⟨x::u,v,rfl,by simp[e,hu]⟩
def nF(n o:D)(xs:b!):∃u v,xs=u++v/\Nk n o xs=u++n::v/\lst .non u=if o∈xs then o else .non:=by
 unfold Nk;by_cases h:o∈xs
 .obtain⟨u,v,rfl,hu⟩:=jH h;exact⟨u++[o],v,Q!,by rw[IB h,kE hu];simp,by rw[IB h,b0r]⟩
 .exact⟨[],xs,rfl,wi_,wi_⟩
def d1u:(Str.ofString "following"==Str.ofString "preceding")=false:=by decide+kernel
def d0t:(Str.ofString "preceding"==Str.ofString "following")=false:=by decide+kernel
def a4w:(Str.ofString "following"==Str.ofString "following")=true:=by decide+kernel
def lkP:List.lookup (Str.ofString "preceding") [(Str.ofString "following",a),(Str.ofString "preceding",b)]=some b:=by simp[JY,d0t]
structure Kj(t:Ar)(M:Mh)(r f p:xz!)(xs:b!):Prop where
 ob:M r=some wj!
 dc:∃kf ef kp ep,M f=some (.dct kf ef)/\M p=some (.dct kp ep)/\Ib xs kf/\Ib xs.reverse kp
 ne:f≠p
def xZ:Cf d=true↔d=.non:=by cases d<;>simp[Cf]
def lW(hd:d≠.non):Cf d=false:=by cases q:Cf d with|false=>rfl|true=>exact absurd (xZ.mp q) hd
section
variable{t:Ar}{M:Mh}{r f p:xz!}{xs:List D}{R:D->Mh->Prop}
def a4n(h:wj_)(hk:bh_)(hR:R (.bl (decide (d∈xs))) M):Hf t [.fn r,d] M R:=by
 obtain⟨kf,ef,kp,ep,hf,hp,K,_⟩:=h.dc;refine n!;by_cases hd:d=.non
 .subst hd;rw[IG (IQ.mp K.nd).1]at hR;simpa[Ld,Bj,Ka,wT,wl,f2,Aa,fC,Ap,Cf]using hR
 .have e3:(kget kf d).isSome=decide (d∈xs):=by
   have:=K.has (z:=d);cases q:kget kf d with
   |none=>rw[q]at this;simp[hd]at this;simp[this]
   |some v=>rw[q]at this;simp[hd]at this;simp[this]
  rw[<-e3]at hR;simpa[Ld,Bj,Ka,wT,wl,f2,Aa,fC,Ap,lW hd,w2,Ay,Ii,h.ob,Fc,Il,hf,hk,a4w]using hR
def iX(h:wj_)(hn:Df n=some kn)(ho:Df o=some ko)(nx:n∉D.non::xs)(hl:i_<5000)
  (hR:∀M',Kj t M' r f p (Nk n o xs)->wk_->R .non M'):Cm t [.fn r,n,o] M R:=by
 obtain⟨kf,ef,kp,ep,hf,hp,K,Kp⟩:=h.dc;have me:r≠f:=λz=>by have:=h.ob;rw[z,hf]at this;cases this
 have jc:r≠p:=λz=>by have:=h.ob;rw[z,hp]at this;cases this
 obtain⟨u,v,rfl,c2,ea⟩:=nF n o xs;have nd:=K.nd;have qz:kget kf (lst .non u)=some dR!:=(K.f _).trans (a7w (nV!).1);have ma:lst D.non u∈D.non::X!:=by rw[<-LY];exact IT _ sM
 have mb:v.headD D.non∈D.non::X!:=by
  obtain z|z:=sN wl!
  .rw[z];exact HX
  .exact HS _ z
 obtain⟨ka,vh⟩:=K.key ma;obtain⟨kb,ju⟩:=K.key mb;have nb:v.headD D.non≠n:=λz=>nx (z▸mb);have ev:v.headD D.non=lst .non jE!:=by rw[<-oY,List.reverse_reverse]
 have eu:lst D.non u=u.reverse.headD .non:=oY.symm;have L:=K.len;have L':=Kp.len;rw[List.length_reverse]at L';rw[List.reverse_append]at Kp;generalize ic:lst D.non u=a0 at *;generalize vj:v.headD D.non=b0 at *;have K1:=K.ins (k':=Bg gS_ n b0) nx ⟨kn,hn⟩ (kC (kC K.kn)) λz=>by rw[jF,jF,vj,ic]
 have K2:=Kp.ins (n:=n) (k':=Bg gT! b0 n) (λz=>nx (by simpa[or_comm]using z)) ⟨kn,hn⟩ (kC (kC Kp.kn)) λz=>by
  rw[jF,jF,<-ev,<-eu];by_cases c:z=b0
  .rw[IB c,IF (c▸nb),IB c]
  .rw[IF c,IF c]
 have l1:kf.length<big:=by unfold big;omega
 have l2:kp.length<big:=by unfold big;omega
 have l3:(gS_).length<big:=KM gT_ bs_;have l4:(gT!).length<big:=KM gT_ bs_;have fin:R .non (mup (mup (mup (mup M f (.dct gS_ (Hc kf a0 ef))) p (.dct gT! (Hc kp n ep))) f (.dct (Bg gS_ n b0) (Hc gS_ n (Hc kf a0 ef)))) p (.dct (Bg gT! b0 n) (Hc gT! b0 (Hc kp n ep)))):=by
  refine hR _ ⟨?_,⟨_,_,_,_,wn_,mup_same,by rw[c2];exact K1,by rw[c2];simpa using K2⟩,h.ne⟩ λb og ug=>?_
  .rw[jF!,jG!,jF!,jG!];exact h.ob
  .rw[jG_,jH!,jG_,jH!]
 refine n!;simp only[Jg,Ah,Am,Zi,wT,Bd,wl,Ab,Af,Aa];simp[Ed,h.ob,d1u,a4w];refine⟨⟨f7_,f7_⟩,?_⟩;refine a4n h ho ?_;by_cases c:o∈u++v
 .rw[IB c]at ea;show"!7"
 .rw[IF c]at ea;show"!7"
def a2f(h:Kj t M r f p cu!)(hn:Df n=some kn)(hl:(cu!).length<5000)
  (hR:∀M',Kj t M' r f p X!->wk_->R .non M'):Hz t [.fn r,n] M R:=by
 obtain⟨kf,ef,kp,ep,hf,hp,K,Kp⟩:=h.dc;have me:r≠f:=λz=>by have:=h.ob;rw[z,hf]at this;cases this
 have jc:r≠p:=λz=>by have:=h.ob;rw[z,hp]at this;cases this
 have e1:(cu!).reverse=jE!++n::u.reverse:=by simp
 have at_:∀{u v:b!} {k:j!},Ib cu! k->kget k n=some dR!/\n∉D.non::X!:=λ{u v k} K=>by
  show"!j";have nd:=IQ.mp (p.nodup_iff.mp K.nd);refine⟨?_,nd.1⟩;show"#7";rw[K.f,sO n1.1 (JL.mp n2).1,A!]
 have L:=K.len;have L':=Kp.len;rw[List.length_reverse]at L';rw[e1]at Kp;have ev:v.headD D.non=lst .non jE!:=by rw[<-oY,List.reverse_reverse]
 have qz:=(at_ K).1;have yk:=(at_ Kp).1;obtain⟨kb,ju⟩:=K.key (z:=v.headD .non) (by obtain z|z:=sN wl!;rw[z];exact HX;exact HS _ z);obtain⟨ka,vh⟩:=Kp.key (z:=u.reverse.headD .non) (by obtain z|z:=sN ((Kp.f _).symm.trans yk);rw[z];exact HX;exact HS _ z);have eu:lst D.non u=u.reverse.headD .non:=oY.symm;have K1:=K.out (k':=Bg gU! (lst .non u) dR!) (kC (b8m K.kn)) λz=>by rw[jF,b8k K.kn]
 have K2:=Kp.out (k':=Bg gU_ (lst .non jE!) (u.reverse.headD .non)) (kC (b8m Kp.kn)) λz=>by rw[jF,b8k Kp.kn]
 rw[<-ev]at K2;rw[eu]at K1;generalize u.reverse.headD D.non=a0 at *;generalize v.headD D.non=b0 at *;have dl:∀{l:j!},(Gh l n).length<=aC!:=λ{l}=>by
  induction l with
  |nil=>exact IN _
  |cons q l ih=>unfold Gh;split;exact LX _;exact Nat.succ_le_succ ih
 have l1:(gU!).length<big:=KM dl bs_;have l2:(gU_).length<big:=KM dl bs_;refine n!;have fin:R .non (mup (mup (mup (mup M p (.dct gU_ bu!)) f (.dct gU! (ef+1))) f (.dct (Bg gU! a0 b0) (Hc gU! a0 (ef+1)))) p (.dct (Bg gU_ b0 a0) (Hc gU_ b0 bu!))):=by
  refine hR _ ⟨?_,⟨_,_,_,_,wn_,mup_same,K1,by simpa using K2⟩,h.ne⟩ λb og ug=>?_
  .rw[jF!,jG!,jG!,jF!];exact h.ob
  .rw[jG_,jH!,jH!,jG_]
 simpa[Lc,Ah,Am,w2,wl,Ay,Bx,Xl,Ea,Fc,Ii,Aa,fC,f2,h.ob,a4w,lkP,hf,hp,vh,ju,hn,qz,yk,Jv,l1,l2,mup_ne,mup_same,me,jc,h.ne,JE h.ne]using fin
end
end K22
namespace K22
open PySem L2 DL
abbrev root:D:=.str "root"
abbrev Db:D:=.str "bin"
def b5i:root≠Db:=by intro z;simp only[D.str.injEq]at z;exact absurd z j_
def Hm(x:D):Prop:=∃a b,x=.tup wq!
def Qx(x:D):Prop:=∃a b c,x=.tup wq_
def Hm.key(h:Hm x):∃k,Df x=some k:=by obtain⟨a,b,rfl⟩:=h;exact L_
def Hm.nn(h:Hm x):x≠.non/\x≠root/\x≠Db:=by obtain⟨a,b,rfl⟩:=h;refine⟨?_,?_,?_⟩<;>(intro z;cases z)
def Qx.nn(h:Qx x):x≠.non:=by obtain⟨a,b,c,rfl⟩:=h;intro z;cases z
structure OW where
 rows:List ap!
 its:List D
 txt:D->List eZ_
 num:D->List D
open Classical in
def Ho(rows:j!)(x:D):List D:=(rows.filter λq=>q.2=x).map c_
open Classical in
nonrec def wo(rows:j!)(i:D):List ap!:=rows.filter λq=>q.1≠i
inductive Wn(rows:j!)(i:D):D->Prop
 |here:Wn rows i i
 |up {x p:D}:aZ!∈rows->Wn rows i p->Wn rows i x
def Qt(rows:j!)(i p s:D)(aj:j!):Prop:=∃u v,wo rows i=u++v/\aj=u++bH!::v/\((s∉Ho dS! p/\Ho u p=[])\/∃u',u=u'++[c9_])
def Ig(W:OW)(x:D):Prop:=x∈W.its\/x=root\/x=Db
structure Ch(W:OW):Prop where
 nd:W.its.Nodup
 nm:∀x∈W.its,Hm x
 rnd:(W.rows.map c_).Nodup
 ri:∀x,x∈W.rows.map c_↔x∈W.its
 rp:∀i p,bH!∈W.rows->Ig W p
 rk:∃rk:D->Nat,∀i p,bH!∈W.rows->rk p<rk i
 snd:∀x∈W.its,((da!).map c_).Nodup
 sg:∀x∈W.its,∀q∈W.txt x,Qx q.1
 su:∀x∈W.its,∀y∈W.its,∀q∈W.txt x,∀q'∈W.txt y,q.1=q'.1->x=y
 nl:∀x∈W.its,(cu_).length=4
section
open Classical
def jD{q:D×D}:q∈wo rows i↔q∈rows/\q.1≠i:=by unfold wo;rw[LP];simp
def mO:c∈Ho rows x↔(c,x)∈rows:=by
 unfold Ho;rw[IU];show"#1"
 .rintro⟨⟨a,b⟩,h,rfl⟩;rw[LP]at h;have:=h.2;simp at this;rw[<-this];exact h.1
 .intro h;exact⟨(c,x),LP.mpr ⟨h,Q!⟩,rfl⟩
def dX:Ho X! x=Ho u x++Ho v x:=by unfold Ho;rw[QB,IZ]
def jG:Ho (bH!::v) p=i::Ho v p:=by unfold Ho;rw[KD b_];rfl
def rW(h:p≠x):Ho (bH!::v) x=Ho v x:=by unfold Ho;rw[KF jW!]
def sW{rows:j!}:((dS!).map c_).Sublist oS!:=by unfold wo;exact(yk_).map _
def Qt.chl_same{rows:j!}(h:gV!)(nd:fg_):Ho aj p=Nk i s (Ho dS! p):=by
 obtain⟨u,v,e,rfl,hc⟩:=h;rw[dX,jG];have j8:((X!).map c_).Nodup:=by rw[<-e];exact nd.sublist sW
 obtain⟨J,h2⟩|⟨u',rfl⟩:=hc
 .unfold Nk;rw[IF J,e,dX,h2];rfl
 .rw[e];have hs:s∈Ho wr_ p:=mO.mpr b_;unfold Nk;have h2:Ho (u'++[c9_]) p=Ho u' p++[s]:=by rw[dX,jG];rfl
  have h3:Ho wr_ p=Ho u' p++s::Ho v p:=by rw[dX,h2];simp
  rw[IB hs,h2,h3];have hu:s∉Ho u' p:=λz=>by
   have:=mO.mp z;simp only[IZ,IE,NN,KL]at j8;rw[JL]at j8;exact j8.2.2 _ (IM (f:=c_) this) s b_ rfl
  rw[kE hu];simp
def Qt.chl_ne(h:gV!)(hx:p≠x):Ho aj x=Ho dS! x:=by obtain⟨u,v,e,rfl,hc⟩:=h;rw[dX,rW hx,e,dX]
def Qt.mem(h:gV!){q:D×D}:q∈aj↔q=bH!\/q∈wo rows i:=by
 obtain⟨u,v,e,rfl,hc⟩:=h;rw[e];simp only[II,HV];show"#1"
 .rintro(z|z|z)<;>simp[z]
 .rintro(z|z|z)<;>simp[z]
def Qt.nd{rows aj:j!}(h:gV!)(nd:fg_):(aj.map c_).Nodup:=by
 obtain⟨u,v,e,rfl,hc⟩:=h;have j8:((X!).map c_).Nodup:=by rw[<-e];exact nd.sublist sW
 have ni:i∉(X!).map c_:=λz=>by
  obtain⟨q,hq,hi⟩:=IU.mp z;rw[<-e]at hq;exact(n0_).2 hi
 simp only[IZ,IE]at j8 ni ⊢;rw[JL]at j8 ⊢;rw[II,OZ]at ni;refine⟨j8.1,IQ.mpr ⟨ni.2,j8.2.1⟩,λa ha b hb=>?_⟩;obtain rfl|hb:=HV.mp hb
 .exact λz=>ni.1 (z▸ha)
 .exact j8.2.2 a ha b hb
def yL(h:(i,x)∉rows):Ho dS! x=Ho rows x:=by unfold Ho wo;rw[QA];congr 1;apply OC;intro q hq;simp only[ne_eq,decide_not,Bool.and_eq_left_iff_imp,JC,QZ,MC,QN];rintro rfl z;exact h n1!
def a8p{rows:j!}(nd:fg_)(h:(i,x)∈rows):∃u v,Ho rows x=u++i::v/\Ho dS! x=u++v:=by
 obtain⟨a,b,e,_⟩:=jH h;have n1:i∉(a++b).map c_:=by
  rw[e]at nd;simp only[IZ,IE]at nd ⊢;rw[JL,IQ]at nd;rw[II,OZ];exact⟨λz=>nd.2.2 _ z i b_ rfl,nd.2.1.1⟩
 have e2:wo rows i=a++b:=by
  unfold wo;rw[e,QB,KF b_];have keep:∀l:List ap!,i∉l.map c_->l.filter (λq=>decide (q.1≠i))=l:=λl hl=>KQ.mpr λq hq=>by
   simp only[ne_eq,decide_not,QZ,MC,QN];exact λz=>hl n1_
  rw[IZ,II,OZ]at n1;rw[keep a n1.1,keep b n1.2]
 refine⟨Ho a x,Ho b x,?_,?_⟩
 .rw[e,dX,jG]
 .rw[e2,dX]
def a5x{rows:j!}(nd:fg_)(h:aZ!∈rows)(hx:x≠i):Wn rows i x↔Wn rows i p:=by
 show"#1"
 .intro z;cases z with
  |here=>exact absurd rfl hx
  |up h2 z=>rw[jQ nd h h2];exact z
 .exact λz=>.up h z
def b4j(h:∀p,aZ!∉rows)(hx:x≠i):¬Wn rows i x:=λz=>by
 cases z with
 |here=>exact hx rfl
 |up h2 _=>exact h _ h2
def Qt.winv{W:OW}(h:Qt W.rows i p s aj)(w:Ch W)(hi:da_)(hp:Ig W p)(hw:¬Wn W.rows i p):Ch {W with rows:=aj}:=by
 refine⟨w.nd,w.nm,h.nd w.rnd,jI_,jJ!,?_,w.snd,w.sg,w.su,w.nl⟩
 .show x∈aj.map c_↔x∈W.its;rw[<-w.ri x];show"#1"
  .intro z;obtain⟨q,hq,rfl⟩:=IU.mp z;obtain rfl|hq:=h.mem.mp hq
   .exact(w.ri i).mpr hi
   .exact IM (n0_).1
  .intro z;by_cases hx:x=i
   .subst hx;exact IU.mpr ws!
   .obtain⟨q,hq,rfl⟩:=IU.mp z;exact IM (h.mem.mpr (.inr (jD.mpr ⟨hq,hx⟩)))
 .show Ig W b;obtain z|z:=h.mem.mp hm
  .cases z;exact hp
  .exact w.rp _ _ (jD.mp z).1
 .obtain⟨rk,gu⟩:=w.rk;refine⟨λx=>if Wn W.rows i x then rk x+rk p+1 else rk x,jJ!⟩;obtain z|z:=h.mem.mp hm
  .cases z;dsimp only;rw[IF hw,IB .here];omega
  .obtain⟨z1,z2⟩:=jD.mp z;have:=gu _ _ z1;have q:=a5x w.rnd z1 z2;dsimp only;by_cases c:Wn W.rows i a
   .rw[IB c,IB (q.mp c)];omega
   .rw[IF c,IF (λz=>c (q.mpr z))];exact this
def Jh(W:OW)(n:D)(aj:j!):OW:=⟨aj,W.its++[n],λx=>if x=n then[]else W.txt x,λx=>if x=n then[.int 0,.int 0,.int 0,.int 0]else W.num x⟩
def Qt.winv_put{W:OW}(h:Qt W.rows n p s aj)(w:Ch W)(hn:n∉W.its)(ht:Hm n)(hp:Ig W p):Ch e0!:=by
 have nn:n∉W.rows.map c_:=λz=>hn ((w.ri n).mp z);have vk:wo W.rows n=W.rows:=by
  refine KQ.mpr λq hq=>?_;simp only[ne_eq,decide_not,QZ,MC,QN];exact λz=>nn n1_
 have pn:p≠n:=λz=>by
  obtain q|q|q:=hp
  .exact hn (z▸q)
  .exact ht.nn.2.1 (z▸q)
  .exact ht.nn.2.2 (z▸q)
 have im:∀x,x∈(e0!).its↔x∈W.its\/x=n:=λx=>by simp[Jh]
 refine⟨?_,aB!,h.nd w.rnd,jI_,jJ!,?_,aB!,aB!,jJ_,aB!⟩
 .show(W.its++[n]).Nodup;rw[JL];exact⟨w.nd,Q!,λa ha b hb=>by simp at hb;subst hb;exact λz=>hn (z▸ha)⟩
 .obtain z|rfl:=(im x).mp hx
  .exact w.nm x z
  .exact ht
 .rw[im,<-w.ri x];show"#1"
  .intro z;obtain⟨q,hq,rfl⟩:=IU.mp z;obtain rfl|hq:=h.mem.mp hq
   .exact .inr rfl
   .rw[vk]at hq;exact .inl (IM hq)
  .rintro(z|rfl)
   .obtain⟨q,hq,rfl⟩:=IU.mp z;exact IM (h.mem.mpr (.inr (by rw[vk];exact hq)))
   .exact IU.mpr ws!
 .have up:∀y,Ig W y->Ig e0! y:=λy hy=>by
   obtain q|q:=hy
   .exact .inl ((im y).mpr (.inl q))
   .exact .inr q
  obtain z|z:=h.mem.mp hm
  .cases z;exact up _ hp
  .rw[vk]at z;exact up _ (w.rp _ _ z)
 .obtain⟨rk,gu⟩:=w.rk;refine⟨λx=>if x=n then rk p+1 else rk x,jJ!⟩;obtain z|z:=h.mem.mp hm
  .cases z;dsimp only;rw[IF pn,A!];omega
  .rw[vk]at z;have ha:a≠n:=λq=>nn (q▸IM (f:=c_) z);have hb:b≠n:=λq=>by
    obtain y|y|y:=w.rp _ _ z
    .exact hn (q▸y)
    .exact ht.nn.2.1 (q▸y)
    .exact ht.nn.2.2 (q▸y)
   dsimp only;rw[IF ha,IF hb];exact gu _ _ z
 .show((jK_).map c_).Nodup;split
  .simp
  .rename_i q;exact w.snd x n4_
 .show∀q∈jK_,Qx q.1;split
  .intro q hq;cases hq
  .rename_i q;exact w.sg x n4_
 .show∀q∈jK_,∀q'∈wu!,q.1=q'.1->x=y;split
  .intro q hq;cases hq
  .rename_i q1;split
   .intro q hq q' be;cases be
   .rename_i q2;exact w.su x ((n4!).resolve_right q1) y (((im y).mp hy).resolve_right q2)
 .show(if x=n then[.int 0,.int 0,.int 0,.int 0]else W.num x).length=4;split
  .rfl
  .rename_i q;exact w.nl x n4_
def Wu(b:D)(nw:ai!):List eZ_->List eZ_
 |[]=>[]
 |x::r=>if x.1=b then x::(nw++r)else x::Wu b nw r
nonrec def wrT(b:D)(nw l:ai!):List eZ_:=if b∈l.map c_ then Wu b nw l else nw++l
def vF{u:ai!}{q:e0_}(hq:q.1=b):b∉u.map c_->Wu b nw (u++q::v)=u++q::(nw++v):=by
 induction u with
 |nil=>intro _;simp[Wu,hq]
 |cons x u ih=>
  intro h;rw[IE,HV,OZ]at h;simp only[LY,Wu];rw[kI_,ih h.2]
def pT(b:D)(nw l:ai!):∃u v,l=u++v/\wrT b nw l=u++nw++v/\((u=[]/\b∉l.map c_)\/∃u' q,u=u'++[q]/\q.1=b/\b∉u'.map c_):=by
 by_cases h:b∈l.map c_
 .obtain⟨u,v,e,hu⟩:=jH h;obtain⟨u',r,e1,e2,e3⟩:=List.map_eq_append_iff.mp e;obtain⟨q,v',e4,e5,e6⟩:=List.map_eq_cons_iff.mp e3;subst e4;refine⟨u'++[q],v',by simp[e1],?_,.inr ⟨u',q,rfl,e5,by rw[e2];exact hu⟩⟩;unfold wrT;rw[IB h,e1,vF e5 (by rw[e2];exact hu)];simp
 .exact⟨[],l,rfl,by unfold wrT;rw[IF h];rfl,.inl cv_⟩
nonrec def setT(W:OW)(a:D)(l:ai!):OW:={W with txt:=λx=>if x=a then l else W.txt x}
def pV{W:OW}{l:ai!}(w:Ch W)(ha:e1!)(J:nQ_)(h2:∀q∈l,Qx q.1)(h3:∀q∈l,∀y∈W.its,∀q'∈W.txt y,q.1=q'.1->y=a):Ch n5!:=by
 refine⟨w.nd,w.nm,w.rnd,w.ri,w.rp,w.rk,aB!,aB!,jJ_,w.nl⟩
 .show((n5_).map c_).Nodup;split
  .exact J
  .exact w.snd x hx
 .show∀q∈n5_,Qx q.1;split
  .exact h2
  .exact w.sg x hx
 .show∀q∈n5_,∀q'∈(if y=a then l else W.txt y),q.1=q'.1->x=y;split
  .rename_i e1;subst e1;split
   .rename_i e2;intro _ _ _ _ _;exact e2.symm
   .intro q hq q' be e;exact(h3 q hq y hy q' be e).symm
  .split
   .rename_i e2;subst e2;intro q hq q' be e;exact h3 q' be x hx q hq e.symm
   .exact w.su x hx y hy
def Wh(W:OW)(a:D)(l:b!):OW:={W with num:=λx=>if x=a then l else W.num x}
def b1z{l:b!}(w:Ch W)(hl:aC!=4):Ch (Wh W a l):=by
 refine⟨w.nd,w.nm,w.rnd,w.ri,w.rp,w.rk,w.snd,w.sg,w.su,aB!⟩;show(if x=a then l else W.num x).length=4;split
 .exact hl
 .exact w.nl x hx
end
end K22
namespace K22
open PySem L2 DL
open Classical
nonrec def oF(a1 a2 a3 a4 a5 a6:xz!):List b5!:=[cw!,e2!,n6!,wv_,("written",.fn a5),("hidden",.fn a6)]
section
variable{a1 a2 a3 a4 a5 a6:xz!}
def oF1:List.lookup (Str.ofString "parents") bJ!=some (D.fn a1):=by kernel_rfl
def oF2:List.lookup n7! bJ!=some (D.fn a2):=by kernel_rfl
def oF3:List.lookup n7_ bJ!=some (D.fn a3):=by kernel_rfl
def oF4:List.lookup n8_ bJ!=some (D.fn a4):=by kernel_rfl
def oF5:List.lookup (Str.ofString "written") bJ!=some (D.fn a5):=by kernel_rfl
def oF6:List.lookup (Str.ofString "hidden") bJ!=some (D.fn a6):=by kernel_rfl
def oM1:List.lookup (Str.ofString "has") bJ!=none:=by kernel_rfl
def oM2:List.lookup (Str.ofString "has_item") bJ!=none:=by kernel_rfl
end
def rM:List.lookup (Str.ofString "put_behind") jM_=none/\List.lookup (Str.ofString "take_out") jM_=none/\List.lookup (Str.ofString "listed") jM_=none/\List.lookup (Str.ofString "holds") jM_=none:=⟨jN!,jN!,jN!,jN!⟩
inductive Nz
 |ob|par|dir (b:Bool)|nums|wri|hid|row (x:D) (b:Bool)|fol (x:D) (b:Bool)|pre (x:D) (b:Bool)|nm (x:D)
structure Ix where
 pr:D->D->Prop
 dm:Bool->D->Prop
 nd:D->Prop
 ls:D->Bool->List D
 wr:D->D->Prop
 hi:D->Prop
 nu:D->List D
def Jp(V:Ix):Nz->Prop
 |.row x b=>V.dm b x
 |.fol x b=>V.dm b x
 |.pre x b=>V.dm b x
 |.nm x=>V.nd x
 |_=>True
def Dc(B:Nat)(c:Cw)(P:ww_):Prop:=∃k e,c=.dct k e/\jB_<=B/\P k
def TF(B:Nat)(c:Cw)(l:b!):Prop:=aC!<=B/\∃k e,c=.dct k e/\Ib l k
def Ty(t:Ar)(ad:e2_)(V:Ix)(B:Nat)(c:Cw):Nz->Prop
 |.ob=>c=.obj t.B6 wx!
 |.par=>Dc B c λk=>kget k root=some .non/\kget k Db=some .non/\∀i p,V.pr i p->kget k i=some p
 |.dir b=>Dc B c λk=>∀x,n9_/\oa!
 |.nums=>Dc B c λk=>∀x,V.nd x->kget k x=some (.fn jO!)
 |.wri=>Dc B c λk=>∀s v,V.wr s v->kget k s=some v
 |.hid=>Dc B c λk=>∀s,(kget k s).isSome=true↔V.hi s
 |.row x b=>c=.obj t.B7 [("following",.fn (ad cw_)),("preceding",.fn (ad cx!))]
 |.fol x b=>TF B c jO_
 |.pre x b=>TF B c (jO_).reverse
 |.nm x=>c=.lst (V.nu x)
structure El(t:Ar)(M:Mh)(ad:e2_)(V:Ix)(B:Nat):Prop where
 ty:∀r,Jp V r->∃c,M gW_=some c/\Ty t ad V B c r
 inj:∀r r',Jp V r->Jp V r'->ad r=ad r'->r=r'
def Vx(ad:e2_)(V:Ix)(b:xz!):Prop:=∃r,Jp V r/\ad r=b
def Sm(V V':Ix):Nz->Prop
 |.par=>V'.pr=V.pr
 |.dir b=>V'.dm b=V.dm b
 |.nums=>V'.nd=V.nd
 |.wri=>V'.wr=V.wr
 |.hid=>V'.hi=V.hi
 |.fol y b=>V'.ls y b=V.ls y b
 |.pre y b=>V'.ls y b=V.ls y b
 |.nm x=>V'.nu x=V.nu x
 |_=>0=0
def Sm.rfl{V:Ix}{r:Nz}:Sm V V r:=by cases r<;>exact Eq.refl _
section
variable{t:Ar}{M M':Mh}{o:xz!}{ad bd:Nz->Addr}{V V':Ix}{W:OW}{B B':Nat}{R:D->Mh->Prop}{c:Cw}{r:Nz}{x:D}{b:Bool}
def Dc.mono{P Q:ww_}(h:Dc B c P)(hB:cx_)(q:∀k,P k->Q k):Dc B' c Q:=by obtain⟨k,e,J,h2,h3⟩:=h;exact⟨k,e,J,JM h2 hB,q k h3⟩
def Ty.tr(hB:cx_)(old:jP!)(l:Jp V r)(s:Sm V V' r)(ty:Ty t ad V B c r):Ty t bd V' B' c r:=by
 cases r with
 |ob=>exact ty.trans (by rw[old .par trivial,old (.dir true) trivial,old (.dir false) trivial,old .nums trivial,old .wri trivial,old .hid trivial])
 |par=>have s:V'.pr=V.pr:=s;exact Dc.mono ty hB λk h=>by rw[s];exact h
 |dir b=>have s:V'.dm b=V.dm b:=s;exact Dc.mono ty hB λk h x=>by rw[s];exact⟨λz=>by rw[old e3! z];exact(h x).1 z,(h x).2⟩
 |nums=>have s:V'.nd=V.nd:=s;exact Dc.mono ty hB λk h x z=>by rw[s]at z;rw[old jN_ z];exact h x z
 |wri=>have s:V'.wr=V.wr:=s;exact Dc.mono ty hB λk h=>by rw[s];exact h
 |hid=>have s:V'.hi=V.hi:=s;exact Dc.mono ty hB λk h=>by rw[s];exact h
 |row x b=>exact ty.trans (by rw[old cw_ l,old cx! l])
 |fol x b=>have s:V'.ls x b=V.ls x b:=s;exact wA!
 |pre x b=>have s:V'.ls x b=V.ls x b:=s;exact wA!
 |nm x=>have s:V'.nu x=V.nu x:=s;exact ty.trans (by rw[s])
def El.go(h:aZ_)(hB:cx_)(old:jP!)(inj:∀r r',Jp V' r->Jp V' r'->bd r=bd r'->r=r')
  (k:∀r,Jp V' r->(∃c,M' (bd r)=some c/\Ty t bd V' B' c r)\/(Jp V r/\M' gW_=M gW_/\Sm V V' r)):El t M' bd V' B':=⟨λr hr=>by
 obtain z|⟨l,e,s⟩:=k r hr
 .exact z
 .obtain⟨c,e1,e2⟩:=h.ty r l;exact⟨c,by rw[old r l,e];exact e1,e2.tr hB old l s⟩,inj⟩
def El.cv(h:aZ_)(hB:cx_)(hL:∀r,Jp V' r->Jp V r/\Sm V V' r):El t M ad V' B':=
 h.go hB q_ (λr r' a b=>h.inj r r' (hL r a).1 (hL r' b).1) λr l=>.inr ⟨(hL r l).1,rfl,(hL r l).2⟩
def El.up{r0:Nz}(h:aZ_)(hB:cx_)(l0:Jp V r0)(hc:Ty t ad V' B' c r0)(s:∀r,r≠r0->Jp V' r->Jp V r/\Sm V V' r):El t (mup M (ad r0) c) ad V' B':=by
 have hL:∀r,Jp V' r->Jp V r:=λr l=>by
  by_cases e:r=r0
  .rw[e];exact l0
  .exact(s r e l).1
 refine h.go hB q_ (λr r' a b=>h.inj r r' (hL r a) (hL r' b)) λr l=>?_;by_cases e:r=r0
 .subst e;exact .inl ⟨c,mup_same,hc⟩
 .exact .inr ⟨hL r l,mup_ne λz=>e (h.inj r r0 (hL r l) l0 z),(s r e l).2⟩
def tE{r0:Nz}(l0:Jp V r0)(ha:¬Vx ad V a):mup M (ad r0) c a=M a:=mup_ne λz=>ha ⟨r0,l0,z.symm⟩
def El.ob(h:aZ_):M (ad .ob)=some (.obj t.B6 wx!):=by obtain⟨_,e,rfl⟩:=h.ty .ob trivial;exact e
def El.row(h:aZ_)(hd:V.dm b x):Kj t M (ad e3!) (ad cw_) (ad cx!) jO_/\(jO_).length<=B:=by obtain⟨_,e,rfl⟩:=h.ty e3! hd;obtain⟨_,e1,l1,kf,ef,rfl,K⟩:=h.ty cw_ hd;obtain⟨_,e2,l2,kp,ep,rfl,K2⟩:=h.ty cx! hd;exact⟨⟨e,⟨kf,ef,kp,ep,e1,e2,K,K2⟩,λz=>by have:=h.inj cw_ cx! hd hd z;cases this⟩,l1⟩
nonrec def Ix.sl(V:Ix)(x:D)(b:Bool)(l:b!):Ix:={V with ls:=λy c=>if y=x/\c=b then l else V.ls y c}
def wY:(V.sl x b l).ls x b=l:=IB aE!
def El.sl{xs:b!}(h:aZ_)(hB:cx_)(hd:V.dm b x)(hr:Kj t M' (ad e3!) (ad cw_) (ad cx!) xs)(fr:∀a,a≠ad cw_->a≠ad cx!->M' a=M a)(hl:i_<=B'):El t M' ad (V.sl x b xs) B'/\∀a,¬Vx ad V a->M' a=M a:=by
 obtain⟨kf,ef,kp,ep,hf,hp,K,Kp⟩:=hr.dc;refine⟨h.go hB q_ h.inj λr l=>?_,λa ha=>fr a (λz=>ha ⟨.fol x b,hd,z.symm⟩) λz=>ha ⟨.pre x b,hd,z.symm⟩⟩;have l':Jp V r:=l;by_cases e1:r=.fol x b
 .subst e1;exact .inl ⟨_,hf,by rw[wY];exact hl,kf,ef,rfl,by rw[wY];exact K⟩
 by_cases e2:r=.pre x b
 .subst e2;exact .inl ⟨_,hp,by rw[wY];simpa using hl,kp,ep,rfl,by rw[wY];exact Kp⟩
 refine .inr ⟨l',fr _ (λz=>e1 wE!) (λz=>e2 wE!),?_⟩;cases r with
 |fol y c=>exact IF λz=>e1 dU!
 |pre y c=>exact IF λz=>e2 dU!
 |_=>rfl
def Km(W:OW):Ix where
 pr:=λi p=>bH!∈W.rows
 dm:=λb x=>match b with|true=>Ig W x|false=>x∈W.its
 nd:=λx=>x∈W.its
 ls:=λx b=>match b with|true=>Ho W.rows x|false=>(da!).map c_
 wr:=λs v=>∃x∈W.its,∃q∈W.txt x,q.1=s/\q.2.1=v
 hi:=λs=>∃x∈W.its,∃q∈W.txt x,q.1=s/\q.2.2=false
 nu:=W.num
def Bt(t:Ar)(M:Mh)(o:xz!)(O:aQ!)(W:OW)(B:Nat):Prop:=∃ad,ad .ob=o/\(∀b,O b↔Vx ad bf! b)/\El t M ad bf! B
def Fr(M:Mh)(O:aQ!)(M':Mh)(O':aQ!):Prop:=∀b,M b≠none->¬O b->M' b=M b/\¬O' b
def Fr.refl{O:aQ!}:Fr M O M O:=λb _ h=>cv_
def Fr.trans{M2:Mh}{O O1 O2:aQ!}(J:Fr M O M' O1)(h2:Fr M' O1 M2 O2):Fr M O M2 O2:=λb hb hr=>by
 obtain⟨e1,e2⟩:=J b hb hr;obtain⟨e3,e4⟩:=h2 b wF! e2;exact⟨e3.trans e1,e4⟩
variable{O:Addr->Prop}
def Bt.mono(h:aQ_)(hB:cx_):Bt t M o O W B':=by obtain⟨ad,e,hO,hI⟩:=h;exact⟨ad,e,hO,hI.cv hB λr l=>⟨l,Sm.rfl⟩⟩
def Bt.live(h:aQ_){b:xz!}(hb:O b):M b≠none:=by obtain⟨ad,e,hO,hI⟩:=h;obtain⟨r,l,rfl⟩:=(hO b).mp hb;obtain⟨c,e,_⟩:=hI.ty r l;rw[e];simp
def Bt.keep(h:aQ_)(k:wG!):Bt t M' o O W B:=by obtain⟨ad,e,hO,hI⟩:=h;exact⟨ad,e,hO,hI.go v_ q_ hI.inj λr l=>.inr ⟨l,k _ ((hO _).mpr ⟨r,l,rfl⟩),Sm.rfl⟩⟩
def a1d(w:Ch W)(h:gY!):∃k,Df x=some k:=by
 obtain h|rfl|rfl:=h
 .exact(w.nm x h).key
 .exact L_
 .exact L_
def El.noOb(h:aZ_)(hm:oe!):Ed t.B6 m M jR!:=by simp[Ed,h.ob,hm]
def Bt.noOb(h:aQ_)(hm:oe!):Ed t.B6 m M ai_:=by obtain⟨ad,rfl,hO,hI⟩:=h;exact hI.noOb hm
def El.dirV(h:aZ_):∃k e,M (ad gY_)=some (.dct k e)/\jB_<=B/\∀x,n9_/\oa!:=by obtain⟨_,e,k,ep,rfl,q⟩:=h.ty gY_ trivial;exact⟨k,ep,e,q⟩
def a5b(h:∀x,n9_/\oa!):(kget k x).isSome=decide (V.dm b x):=by
 by_cases z:V.dm b x
 .rw[(h x).1 z,IY z];rfl
 .rw[(h x).2 z,IG z];rfl
def b8y(h:aQ_)(hk:dh!)(hR:R (.bl (decide (Ig W x))) M):Ek t [aK!,x] M R:=by obtain⟨ad,rfl,hO,hI⟩:=h;obtain⟨k2,e2,h2,_,q⟩:=hI.dirV (b:=true);have e3:=a5b (x:=x) q;refine n!;rw[show decide (Ig W x)=(kget k2 x).isSome from e3.symm]at hR;simpa[Mn,Bj,w2,wl,Ay,Ii,Fc,Aa,hI.ob,oF2,Il,h2,hk]using hR
def gJ(h:aQ_)(hk:dh!)(hR:R oe_ M):Bh t [aK!,x] M R:=by obtain⟨ad,rfl,hO,hI⟩:=h;obtain⟨k2,e2,h2,_,q⟩:=hI.dirV (b:=false);have e3:=a5b (x:=x) q;refine n!;rw[show decide e4!=(kget k2 x).isSome from by rw[e3];congr]at hR;simpa[Hu,Bj,w2,wl,Ay,Ii,Fc,Aa,hI.ob,oF3,Il,h2,hk]using hR
def El.numV(h:aZ_)(hx:V.nd x):∃k e,M (ad .nums)=some (.dct k e)/\kget k x=some (.fn jO!)/\M jO!=some (.lst (V.nu x)):=by obtain⟨_,e,k,ep,rfl,_,q⟩:=h.ty .nums trivial;obtain⟨_,e2,rfl⟩:=h.ty jN_ hx;exact⟨k,ep,e,q x hx,e2⟩
def wE(h:aQ_)(w:Ch W)(hx:of!)(hR:R of_ M):Dk t [aK!,x] M R:=by
 obtain⟨ad,rfl,hO,hI⟩:=h;obtain⟨k,hk⟩:=(w.nm x hx).key;obtain⟨k4,e4,h4,e,hq⟩:=hI.numV (x:=x) hx;have hq:M jO!=some of_:=hq;have hl:(cu_).length<=big:=by rw[w.nl x hx];decide
 refine n!;simpa[Hb,Bj,w1,Ab,Af,w2,wl,Ay,Ii,Fc,Aa,hI.ob,oF4,Ce,h4,hk,e,Vd,Rp,hq,hl]using hR
end
end K22
namespace K22
open PySem L2 DL
def yD:∀(xs ys:r!),Ij (xs.map D.int) (ys.map D.int)=(xs==ys)
 |[],[]=>by simp[Ij]
 |[],y::ys=>by simp[Ij]
 |x::xs,[]=>by simp[Ij]
 |x::xs,y::ys=>by simp[Ij,Eh,yD xs ys]
def Sd(d:D):Prop:=d=.non\/(∃x,d=.str x)\/(∃i,d=.int i)\/∃ns:List Int,d=.tup jg_
def a4k:∀{xs ys:r!},xs.map D.int=ys.map D.int->xs=ys
 |[],[],_=>rfl
 |[],_::_,h=>by simp at h
 |_::_,[],h=>by simp at h
 |x::xs,y::ys,h=>by
  simp only[IE,SO,D.int.injEq]at h;rw[h.1,a4k h.2]
def lY(hx:Sd x)(hy:Sd y):Eh x y=(open Classical in decide (x=y)):=by
 obtain rfl|⟨a,rfl⟩|⟨i,rfl⟩|⟨ns,rfl⟩:=hx<;>obtain rfl|⟨b,rfl⟩|⟨j,rfl⟩|⟨ms,rfl⟩:=hy<;>simp[Eh,yD]
 all_goals
  rw[LR]
  first
   |(simp only[NZ,JC,D.tup.injEq];exact⟨λz=>by rw[z],a4k⟩)
   |(simp only[NZ,JC])
   |simp
def xM:∀(ns:r!),Bv oQ!=true
 |[]=>by simp[Bv]
 |n::ns=>by simp[Bv,Az,xM ns]
def eL(h:Sd x):Az x=true:=by obtain rfl|⟨a,rfl⟩|⟨i,rfl⟩|⟨ns,rfl⟩:=h<;>simp[Az,xM]
def a5e:∀(ns:r!),Dm oQ!<=1
 |[]=>by simp[Dm]
 |n::ns=>by have:=a5e ns;simp[Dm,Gx];omega
def nN(h:Sd x):Gx x<=5:=by
 obtain rfl|⟨a,rfl⟩|⟨i,rfl⟩|⟨ns,rfl⟩:=h<;>simp[Gx]
 have:=a5e ns;omega
def Hm.sd(h:Hm x):Sd x:=by obtain⟨a,b,rfl⟩:=h;exact .inr og!
def Qx.sd(h:Qx x):Sd x:=by obtain⟨a,b,c,rfl⟩:=h;exact .inr wI_
def iE(x:Str):Sd by_:=.inr (.inl ⟨x,rfl⟩)
def a8a(w:Ch W)(h:gY!):Sd x:=by
 obtain h|rfl|rfl:=h
 .exact(w.nm x h).sd
 .exact iE _
 .exact iE _
def a0a(hx:Sd x)(hy:Sd y):Er x y=some (.bl (!(open Classical in decide (x=y)))):=by unfold Er;have:=nN hx;rw[eL hx,eL hy,lY hx hy];rw[IB a4!]
def sR(hx:Sd x)(hy:Sd y):Bb x y=some (.bl (open Classical in decide (x=y))):=by unfold Bb;have:=nN hx;rw[eL hx,eL hy,lY hx hy];rw[IB a4!]
section
variable{t:Ar}{M:Mh}{R:D->Mh->Prop}
def uL{ρ:Ad}(hR:∀r f p M',M r=none->M f=none->M p=none->r≠f->r≠p->Kj t M' r f p []->f≠p->(∀b,b≠r->b≠f->b≠p->M' b=M b)->R (.fn r) M'):Hj t.B7 1 (Gj t) Af ρ M R:=by
 refine⟨rfl,λr hr=>n!⟩;have nf:∀{f:xz!},mup M r (.obj t.B7 []) f=none->f≠r/\M f=none:=λ{f} z=>by
  by_cases e:f=r
  .rw[e,mup_same]at z;cases z
  .rw[mup_ne e]at z;exact⟨e,z⟩
 intro f hf;obtain⟨f1,f2⟩:=nf hf;refine⟨mup_same,U_,by simp[Df],Q!,?_⟩;simp[wl,Aa,mup_ne,mup_same,JE f1,Hw];intro p hp;have p1:p≠r:=λe=>by rw[e,mup_same]at hp;cases hp
 rw[oh!]at hp;have p2:p≠f:=λe=>by rw[e,mup_same]at hp;cases hp
 rw[mup_ne p2,mup_ne p2,oh!]at hp;simp[Eb,My,wl,fC,Aa,mup_ne,mup_same,JE f1,JE p1,Hw,Df];have hne:¬(Str.ofString "following"=Str.ofString "preceding"):=by decide+kernel
 refine hR r f p _ hr f2 hp (JE f1) (JE p1) ⟨mup_same,⟨nW_,1,nW_,1,?_,?_,a2q,a2q⟩,JE p2⟩ (JE p2) λb J h2 h3=>?_
 .rw[mup_ne f1,wL!,wL!,mup_ne f1,mup_same]
 .rw[oh!,mup_same]
 .rw[e5!,mup_ne h3,mup_ne h3,e5!,jT_,jT_,e5!]
end
end K22
namespace K22
open PySem L2 DL
open Classical
section
variable{t:Ar}{M:Mh}{o:xz!}{O:Addr->Prop}{W:OW}{B:Nat}{R:D->Mh->Prop}
def a6o{W:OW}(w:Ch W)(h:of!):∃p,aZ!∈W.rows:=by obtain⟨⟨a,p⟩,hq,rfl⟩:=IU.mp ((w.ri x).mpr h);exact⟨p,hq⟩
def lO{W:OW}(w:Ch W)(h:x∉W.its):∀p,aZ!∉W.rows:=λp z=>h ((w.ri x).mp wh!)
def a9n{W:OW}(w:Ch W):root∉W.its:=λz=>(w.nm _ z).nn.2.1 rfl
def c0o{W:OW}(w:Ch W):Db∉W.its:=λz=>(w.nm _ z).nn.2.2 rfl
def d0n(h:Hm x\/x=root\/x=Db):x≠.non:=by
 obtain h|rfl|rfl:=h
 .exact h.nn.1
 .intro z;cases z
 .intro z;cases z
def c8k{W:OW}(w:Ch W)(h:gY!):x≠.non:=d0n (h.imp_left (w.nm x))
def rD{ad:e2_}(h:El t M ad bf! B)(w:Ch W)(hi:Hm i){rk:D->Nat}(gu:wM!):
  ∀(n:Nat) (x:D),rk x<n->Ig W x->∀(R':p_),(Wn W.rows i x->R' (.nx [e5_,G_,G_]) M)->(¬Wn W.rows i x->R' (.nx [e5_,some .non,G_]) M)->
   ∃m,Di gm_ gn! m oj! M R'
 |0,x,hn,_,_,_,_=>by omega
 |n+1,x,hn,hx,R',r1,r2=>by
  obtain⟨_,J,k1,e1,rfl,_,p0,p1,pr⟩:=h.ty .par trivial;have x0:=c8k w hx;have ne:=a0a (a8a w hx) hi.sd;by_cases e:x=i
  .subst e;have:=r1 .here;refine e6!;simpa[Di,Dd,Co,fT,f2,Aa,fC,Ap,lW x0,ne]using this
  .have st:∀(p:D) (m:Nat),kget k1 x=some p->Di gm_ gn! m [e5_,cy!,G_] M R'->
     Di gm_ gn! (m+1) oj! M R':=λp m hp hw=>by
    obtain⟨k,hk⟩:=a1d w hx;rw[Di];simpa[Dd,Co,fT,f2,Aa,fC,Ap,lW x0,ne,e,Am,w2,wl,Ay,Ii,Fc,h.ob,oF1,Ce,J,hk,hp]using hw
   have top:kget k1 x=some .non->wO!->∃m,Di gm_ gn! m oj! M R':=λhp hr=>by
    have:=r2 (b4j hr e);refine⟨1+1,st .non 1 hp ?_⟩;simpa[Di,Dd,Co,fT,f2,Aa,fC,Ap,Cf]using this
   obtain hx|rfl|rfl:=hx
   .obtain⟨p,hp⟩:=a6o w hx;have q:=a5x w.rnd hp e;have:=gu _ _ hp;obtain⟨m,hm⟩:=rD h w hi gu n p a! (w.rp _ _ hp) R' wP! (λz=>r2 λy=>z (q.mp y));exact⟨m+1,st p m (pr _ _ hp) hm⟩
   .exact top p0 (lO w (a9n w))
   .exact top p1 (lO w (c0o w))
def a1c(h:aQ_)(w:Ch W)(hx:gY!)(hi:Hm i)(hR:R (.bl (decide (Wn W.rows i x))) M):Fg t [aK!,x,i] M R:=by
 obtain⟨ad,rfl,hO,h⟩:=h;obtain⟨rk,gu⟩:=w.rk;obtain⟨m,hm⟩:=rD h w hi gu (rk x+1) x a! hx (λr M1=>match r with|.nx am=>Bj (wl iV_) am M1 gZ_|.rt d=>R d M1)
  (λz=>by simp only[z,QM]at hR;simpa[Bj,wl,f2,Aa,fC,Ap,lW hi.nn.1]using hR)
  (λz=>by simp only[z,SE]at hR;simpa[Bj,wl,f2,Aa,fC,Ap,Cf]using hR)
 refine n!;exact⟨m,hm⟩
def a5k(h:aQ_)(w:Ch W)(cu:e6_)(hkx:oj_)(hR:∀b:Bool,(b=true↔dU_)->R bl! M):Ee t [aK!,i,x] M R:=by
 refine n!;simp only[Hv,Bj,Ka,wT,Bd,wl,Ab,Af,Aa];simp[ok!];refine gJ h cu ?_;show"!v"
 .simp only[c1,QM,KA];refine⟨h.noOb oM1,?_⟩;refine b8y h hkx ?_;by_cases c2:Ig W x
  .simp only[c2,QM,KA,Wc,wT,Bd,wl,Ab,Af,Aa];refine⟨h.noOb b3_,rfl,?_⟩;refine a1c h w c2 (w.nm i c1) ?_;exact hR _ (by simp[c1,c2])
  .simp only[c2,SE];exact hR _ (by simp[c2])
 .simp only[c1,SE];exact hR _ (by simp[c1])
def vV{p n:Int}(h:aQ_)(w:Ch W)(cu:e6_)(p0:0<=p)(p3:p<=3)
  (hR:∀M',Bt t M' o O (if i∈W.its then Wh W i ok_ else W) B->Fr M O M' O->R .non M'):Eu t [aK!,i,.int p,aR!] M R:=by
 refine n!;refine⟨ok!,rfl,gJ h cu ?_⟩;show"!v"
 .simp only[c1,KA]at hR;obtain⟨ad,rfl,hO,hI⟩:=h;obtain⟨k4,e4,h4,e,hq⟩:=hI.numV (x:=i) c1;have hq:M (ad (.nm i))=some (.lst e7!):=hq;have hx:Du (e7!).length p=some p.toNat:=by
   rw[w.nl i c1];unfold Du;rw[IB p0,ap_]
  have fin:R .non (mup M (ad (.nm i)) (.lst ok_)):=by
   refine hR _ ⟨ad,rfl,hO,hI.up (V':=Km (Wh W i ok_)) v_ (r0:=.nm i) c1 (by show _=Cw.lst e7_;rw[A!]) λr hn l=>ol_⟩ λb _ hr=>⟨tE (V:=Km W) (r0:=.nm i) c1 λz=>hr jU_,hr⟩;cases r with
   |nm y=>exact IF λz=>hn (by rw[z])
   |_=>rfl
  simpa[c1,Bx,w2,wl,Ay,Ii,Fc,Aa,hI.ob,oF4,Ce,h4,cu,e,Jv,hq,hx]using fin
 .simp only[c1,JT]at hR;have:=hR M h .refl;simpa[c1,Bp]using this
end
end K22
namespace K22
open PySem L2 DL
open Classical
open Classical
section
variable{t:Ar}{M:Mh}{o:xz!}{O:Addr->Prop}{W:OW}{B:Nat}{R:D->Mh->Prop}
def mF(i:D):setT W i cz!=W:=by
 unfold setT;cases W with
 |mk a b c d=>
  congr 1;funext x;split
  .rename_i e;rw[e]
  .rfl
nonrec def cutT(mf:b!)(l:ai!):List eZ_:=l.map λq=>(q.1,q.2.1,q.2.2&&!decide (q.1∈mf))
def c0c(l:ai!):cutT [] l=l:=by unfold cutT;simp
def kM(g:b!)(l:ai!):(cutT g l).map c_=l.map c_:=by unfold cutT;simp
def c0d(g:b!)(s:D)(l:ai!):cutT [s] (cutT g l)=cutT (g++[s]) l:=by unfold cutT;rw[JU];apply LC;intro q _;simp only[Function.comp,II];congr 2;rw[Bool.and_assoc];congr 1;by_cases J:q.1∈g<;>by_cases h2:q.1∈[s]<;>simp[J,h2]
def c4m{l:ai!}(h:s∉l.map c_):cutT [s] l=l:=by
 conv=>rhs;rw[<-RI l]
 apply LC;intro q hq;have:q.1≠s:=λz=>h n1_;simp[this]
def b3z(w:Ch W)(hi:da_)(g:b!):Ch g1!:=by
 refine pV w hi (by rw[kM];exact w.snd i hi) dV! on!
 .show"!U";exact w.sg i hi q0 h0
 .show"!U";exact(w.su i hi y hy q0 h0 q' be e).symm
def xA(i:D)(l l':ai!):setT g1_ i l'=setT W i l':=by unfold setT;congr 1;funext x;dsimp only;split<;>rfl
def sD(i:D)(l:ai!):(g1_).txt i=l:=by simp[setT]
def qV{P:e8!}(hi:da_):(∃x∈W.its,∃q∈(g1_).txt x,P q)↔(∃q∈l,P q)\/∃x∈W.its,x≠i/\∃q∈W.txt x,P q:=by
 show"#1"
 .rintro⟨x,hx,q,hq,h⟩;have hq:q∈wT!:=hq;split at hq
  .exact .inl ⟨q,hq,h⟩
  .rename_i c;exact .inr ⟨x,hx,c,q,hq,h⟩
 .rintro(⟨q,hq,h⟩|⟨x,hx,c,q,hq,h⟩)
  .exact⟨i,hi,q,by rw[sD];exact hq,h⟩
  .exact⟨x,hx,q,by show q∈wT!;rw[IF c];exact hq,h⟩
def a1l{P:e8!}:(∃q∈cutT g l,P q)↔∃q∈l,P (q.1,q.2.1,q.2.2&&!decide (q.1∈g)):=
 ⟨λ⟨q,hq,h⟩=>by obtain⟨q0,h0,rfl⟩:=IU.mp hq;exact⟨q0,h0,h⟩,λ⟨q,hq,h⟩=>⟨_,IM hq,h⟩⟩
def c6e{l l':ai!}(hi:da_)(hn:l'.map c_=l.map c_)(hw:∀s v,(∃q∈l',q.1=s/\q.2.1=v)↔∃q∈l,q.1=s/\q.2.1=v){r:Nz}(h:r≠.hid):Sm (Km g1_) wV! r:=by
 have ls:∀(y:D) (b:Bool),(wV!).ls y b=(Km g1_).ls y b:=λy b=>by
  cases b with
  |true=>rfl
  |false=>
   show(if y=i then l' else W.txt y).map c_=(if y=i then l else W.txt y).map c_;split
   .exact hn
   .rfl
 cases r with
 |hid=>exact absurd rfl h
 |wri=>exact funext λs=>funext λv=>propext ((qV hi).trans (Iff.trans (by rw[hw]) (qV hi).symm))
 |fol y b=>exact ls y b
 |pre y b=>exact ls y b
 |_=>rfl
abbrev CJ(t:Ar):WS:=(Ah tD!
 tE!)
def a5g{x y z m:Int}(hi:da_)(w:Ch W):∀(js:r!) (M:Mh) (g:b!) (B:Nat) (s9 ym:am_) (R:p_),B+js.length<4000->Bt t M o O g1! B->
  (∀M' ρ,Bt t M' o O (setT W i (cutT (g++js.map λj=>.tup g3!) cz!)) (B+js.length)->Fr M O M' O->R ad_ M')->
  Ih gq_ aj! (CJ t) (js.map .int) [X_,G_,some e9!,some cz_,s9,ym] M R
 |[],M,g,B,s9,ym,R,hB,h,hR=>⟨trivial,hR M _ jW! .refl⟩
 |j::js,M,g,B,s9,ym,R,hB,h,hR=>by
  refine bg!;obtain⟨ki,cu⟩:=(j0!).key;obtain⟨ad,eo,hO,hI⟩:=h;have ob:=hI.ob;rw[eo]at ob;obtain⟨k3,e3,h3,_,g1⟩:=hI.dirV (b:=false);have g1:=(g1 i).1 hi;have g2:Kj t M _ _ _ (((g1!).txt i).map c_):=(op_).1;obtain⟨_,h6,k6,e6,rfl,l6',ZE⟩:=hI.ty .hid trivial;have l6:k6.length<big:=by unfold big;simp at hB;omega
  simp only[IH]at hB hR;have uh:An (.tup oq!) (.tup [eq_])=some g4_:=by simp[An,big]
  have yn:Be e9! none (some 2)=some (.tup oq!):=by simp[Be,Dh,HT.sIx]
  simp[Fc,Cq,Ah,Am,wl,f2,Fd,Aa,Aw,Av,fC,Au,Ac,Ag,yn,uh,As,wT,Bd,DL.w2,Ay,Ii,ob,oF3,Ce,h3,cu,g1,Ed,g2.ob,Ab,Af,rM,-List.lookup_eq_none_iff];refine a4n g2 c5_ ?_;have rc:=λM1 h h2 h3=>a5g (x:=x) (y:=y) (z:=z) (m:=m) hi w js M1 wW_ (B+1) (some b4_) (some g4_) R h h2 h3;by_cases c:D.tup g3!∈((g1!).txt i).map c_
  .simp only[c,QM,KA];have q1:Bt t wX_ o O wY! (B+1):=by
    rw[sD,kM]at c;refine⟨ad,eo,hO,hI.up fa! (r0:=.hid) trivial ⟨_,_,rfl,j1_,λa=>?_⟩ λr hn l=>⟨l,c6e hi (by rw[kM,kM]) (λs v=>by rw[a1l,a1l]) hn⟩⟩;have h0:=(ZE a).trans (qV hi);refine Iff.trans ?_ (qV (W:=W) hi).symm;rw[jF];by_cases e:a=.tup g3!
    .obtain⟨q,hq,e2⟩:=IU.mp c;rw[IB e];exact⟨λ_=>.inl ⟨_,IM hq,e2.trans e.symm,by simp[e2]⟩,cj_⟩
    .rw[IF e,h0];refine or_congr ?_ Iff.rfl;rw[a1l,a1l];refine exists_congr λq=>and_congr_right λ_=>and_congr_right λe2=>?_;have e2:q.1=a:=e2;simp[e2,e]
   have q2:Fr M O wX_ O:=λb _ hr=>⟨tE (V:=Km g1!) (r0:=.hid) trivial λz=>hr jU_,hr⟩;have:=rc _ a! q1 (λM' ρ h' f'=>hR M' ρ w0_ (q2.trans f'));simpa[Bx,wl,Ay,Ii,Fc,Aa,fC,ob,oF6,Jv,h6,show Df g4_=some _ from rfl,l6]using this
  .simp only[c,SE];have q1:Bt t M o O wY! (B+1):=by
    rw[<-c0d,c4m (by rw[sD]at c;exact c)];exact Bt.mono ⟨ad,eo,hO,hI⟩ fa!
   have:=rc _ a! q1 (λM' ρ h' f'=>hR M' ρ w0_ f');simpa[Bp]using this
def c9k{x y z m:Int}(h:aQ_)(w:Ch W)(cu:e6_)(hB:g6!)(z0:0<=z)(m1:1<=m)(ZF:z+m<=16)
  (hR:∀M',Bt t M' o O (if i∈W.its then setT W i (cutT or_ cz!)else W) bt!->Fr M O M' O->R .non M'):
  Iz t [aK!,i,.tup jY!,dW!] M R:=by
 refine n!;simp only[Mo,Ah,As,Kl,wT,Bd,wl,Ab,Af,Aa];simp[ok!];refine gJ h cu ?_;show"!v"
 .simp only[c1,KA]at hR;have hr:Sa eI! tC_ [X_,G_,some e9!,some cz_,none,none]=some ((w3!).map D.int):=by
   have e1:Aj e9! bB!=some (.int z):=rfl;have e2:(z+m - z).toNat=m.toNat:=by congr 1;omega
   have b:-1000<=z/\z<=100000/\-1000<=z+m/\z+m<=100000:=by omega
   simp[Sa,f2,Aa,fC,e1,An,b,e2,Rr,Function.comp]
  have:=a5g (x:=x) (y:=y) (z:=z) (m:=m) c1 w w3! M [] B none none gZ_ a4! (by rw[c0c,mF];exact h) (λM' ρ h2 f2=>hR M' (by
   simp only[KP,JU,IP,NJ]at h2;exact h2.mono a!) f2)
  simp only[c1,QM,MC,JB,JT,Bp,Ec,Ja,Fc,hr];exact this
 .simp only[c1,JT]at hR;have:=hR M (h.mono a!) .refl;simpa[c1,Om]using this
end
end K22
namespace K22
open PySem L2 DL
open Classical
section
variable{t:Ar}{M:Mh}{o:xz!}{O:Addr->Prop}{W:OW}{B:Nat}{R:D->Mh->Prop}
def FL(dq:D)(U l:ai!):Prop:=(U=[]/\dq∉l.map c_)\/∃u' q,U=u'++[q]/\q.1=dq/\dq∉u'.map c_
def FL.names(h:FL dq U (U++v)):Nk s dq ((U++v).map c_)=(j2_).map c_:=by
 obtain⟨rfl,h⟩|⟨u',q,rfl,e,h⟩:=h
 .unfold Nk;rw[IF h];simp
 .unfold Nk;rw[IB eY_];simp only[IZ,IE,NN,KL,LY,KP];rw[e,kE h]
def a5v(w:Ch W)(hi:da_)(hl:W.txt i=U++v)(hs:Qx s)(hf:w4!):Ch j3!:=by
 have fi:=hf i hi;rw[hl]at fi;have p:(j2_).Perm (g6_::(U++v)):=OM;refine pV w hi ?_ dV! on!
 .rw[(p.map _).nodup_iff,IE,IQ];exact⟨fi,by rw[<-hl];exact w.snd i hi⟩
 .obtain rfl|z:=HV.mp w5!
  .exact hs
  .exact w.sg i hi q w5_
 .obtain rfl|z:=HV.mp w5!
  .exact absurd (IU.mpr ⟨q',be,e.symm⟩) (hf y hy)
  .exact(w.su i hi y hy q w5_ q' be e).symm
def b4g{ad:e2_}{e5:Nat}{k5:j!}(hI:El t M ad w6! B)(hk:∀a v,(bf!).wr a v->kget k5 a=some v)(h5:k5.length<B)(hi:da_)(hl:W.txt i=U++v)(hb:l=(j2_).map c_)(hf:w4!):
  El t (mup M n9! (.dct (Bg k5 s c) e5)) ad (Km j3!) B:=by
 have hm:∀{P:e8!},(∃q∈U++g6_::v,P q)↔P g6_\/∃q∈W.txt i,P q:=λ{P}=>by
  rw[hl];simp only[II,HV];show"#1"
  .rintro⟨q,z|z|z,h⟩
   .exact .inr w7_
   .exact .inl (z▸h)
   .exact .inr ⟨q,.inr z,h⟩
  .rintro(h|⟨q,z|z,h⟩)
   .exact⟨_,.inr aj_,h⟩
   .exact w7_
   .exact⟨q,.inr gG!,h⟩
 have hx:∀{P:e8!},(∃x∈W.its,∃q∈(j3!).txt x,P q)↔P g6_\/∃x∈W.its,∃q∈W.txt x,P q:=λ{P}=>by
  have h0:=qV (W:=W) (l:=W.txt i) (P:=P) hi;rw[mF]at h0;rw[qV hi,hm,h0,or_assoc]
 refine hI.up v_ (r0:=.wri) trivial ⟨_,_,rfl,JM gT_ h5,λa w hw=>?_⟩ λr hn l'=>⟨l',?_⟩
 .rw[jF];obtain⟨rfl,rfl⟩|z:=hx.mp hw
  .rw[A!]
  .obtain⟨x,hx,q,hq,e,_⟩:=id z;rw[IF λy=>hf x hx (by rw[<-y,<-e];exact IM hq)];exact hk a w z
 .have ls:∀(y:D) (b:Bool),(Km j3!).ls y b=(w6!).ls y b:=λy b=>by
   cases b with
   |true=>exact(IF λz=>by cases z.2).symm
   |false=>
    show(if y=i then _ else W.txt y).map c_=if y=i/\false=false then l else(W.txt y).map c_
    by_cases z:y=i
    .rw[IB z,IB ⟨z,rfl⟩,hb]
    .rw[IF z,IF λy=>z y.1]
  cases r with
  |wri=>exact absurd rfl hn
  |hid=>exact funext λa=>propext (Iff.trans (hx (P:=λq=>q.1=a/\q.2.2=false)) ⟨λz=>z.resolve_left λy=>Bool.noConfusion y.2,λz=>.inr z⟩)
  |fol y b=>exact ls y b
  |pre y b=>exact ls y b
  |_=>rfl
def FM(t:Ar):WS:=(Ah m4_
 (Ah tA!
 (Ah tB!
 (Am 5 dK!))))
nonrec def sgn(h n:Int)(q:Nat×Nat):D×D×Bool:=(.tup [aR_,aR!,.int pN_],.str ⟨#[q.1]⟩,true)
nonrec def eN(q:Nat×Nat):D:=.tup Ai_
def sV{h n:Int}:∀(cs:k!) (k0:Nat) (M:Mh) (W:OW) (B:Nat) (U v:ai!) (dq:D) (ka:MK) (yo yp q8:am_) (R:p_),B+dc_<4000->Bt t M o O W B->Ch W->i∈W.its->W.txt i=U++v->FL dq U (U++v)->Df dq=some ka->
  (∀x∈W.its,∀k':Nat,k0<=k'->D.tup xa!∉(da!).map c_)->
  (∀M' ρ,Bt t M' o O xb_ (B+dc_)->Ch xb_->Fr M O M' O->R ad_ M')->
  Ih (Vh 6 7) aj! (FM t) ((ou_).map eN) [X_,b5_,G_,dd!,some tx,some dq,yo,yp,q8] M R
 |[],k0,M,W,B,U,v,dq,ka,yo,yp,q8,R,hB,hO,w,hi,hl,hb,hk,hf,hR=>by
  refine⟨trivial,hR M _ ?_ ?_ .refl⟩
  .simp only[QY,NN,JH,MN,Nat.add_zero];rw[<-hl,mF];exact hO
  .simp only[QY,NN,JH];rw[<-hl,mF];exact w
 |c::cs,k0,M,W,B,U,v,dq,ka,yo,yp,q8,R,hB,hO,w,hi,hl,hb,hk,hf,hR=>by
  refine bg!;obtain⟨ki,cu⟩:=(j0!).key;obtain⟨ad,eo,hO,hI⟩:=hO;have ob:=hI.ob;rw[eo]at ob;obtain⟨k3,e3,h3,_,g1⟩:=hI.dirV (b:=false);have g1:=(g1 i).1 hi;have g2:Kj t M _ _ _ ov_:=(op_).1;have lt:(ov_).length<=B:=(op_).2;simp only[IH]at hB hR;have hs:Qx bK_:=xe!;have vm:∀x∈W.its,D.tup j4_∉(da!).map c_:=λx hx=>hf x hx k0 v_;have uh:An ao! (.tup [.int (k0:Nat)])=some bK_:=by simp[An,big]
  have hm:Ed t.B7 "put_behind" M xe_:=by simp only[Ed,g2.ob,rM.1,and_self]
  have hx:∀R',w2 Ce gm! D! ow_ M R'=R' xe_ M:=by
   intro R';simp[w2,wl,Ay,Ii,ob,oF3,Ce,h3,cu,g1,Fc,Aa]
  show FM t ox! M _;show Ah m4_ _ ox! M _;have e8:f2 An w! (Au m4!) ox!=some bK_:=by
   simp[f2,Aa,Au,Ac,Ag,uh]
  simp only[Ah,Am,wl,e8,List.set_cons_succ,List.set_cons_zero,Bq,Bd,hx];refine⟨hm,rfl,?_⟩;refine iX g2 c5_ hk (by rw[HV,OZ];exact⟨hs.nn,vm i hi⟩) a! λM1 hr fr=>?_;obtain⟨hJ,fj⟩:=hI.sl fa! (x:=i) (b:=false) hi hr fr (by obtain⟨u,v,e1,e2,_⟩:=nF bK_ dq ov_;rw[e2];rw[e1]at lt;simp at lt ⊢;omega);obtain⟨_,h5,k5,e5,rfl,l5',ZG⟩:=hI.ty .wri trivial;have ne:∀{r:Nz},Jp bf! r->r≠.fol i false->r≠.pre i false->M1 gW_=M gW_:=λl J h2=>fr _ (λz=>J xg!) λz=>h2 xg!;have ZH:=(ne (r:=.wri) trivial b_ b_).trans h5;have UQ:=(ne (r:=.ob) trivial b_ b_).trans hI.ob;rw[eo]at UQ;have l5:k5.length<big:=by unfold big;omega
  have q1:=b4g (c:=eK_) (e5:=Hc k5 bK_ e5) hJ ZG a! hi hl (by rw[hl];exact hb.names) vm;have q2:Fr M O xg_ O:=λb _ hr=>⟨(tE (V:=Km W) (r0:=.wri) trivial λz=>hr jU_).trans (fj b λz=>hr jU_),hr⟩;have q3:=a5v (c:=eK_) w hi hl hs vm;have hU:U++xh_::v=(U++[xh_])++v:=by simp
  have rc:=λka M2 J h2 h3 h4 h5 h6 h7 h8 h9=>sV (i:=i) (b:=b) (tx:=tx) (h:=h) (n:=n) cs (k0+1) M2 xj! (B+1) (U++[ox_]) v bK_ ka (some xf!) (some gs_) (some bK_) R J h2 h3 h4 h5 h6 h7 h8 h9;have:=rc _ _
   (a!) ⟨ad,eo,hO,q1⟩ q3 hi (by rw[sD,hU]) (.inr ⟨U,_,rfl,rfl,λz=>vm i hi xj_⟩) c5_
   (λx hx k' cz z=>by
    have tx:(xj!).txt x=if x=i then U++ox_::v else W.txt x:=rfl
    rw[tx]at z;by_cases y:x=i
    .subst y;rw[A!]at z;simp only[IZ,IE,II,HV]at z;obtain z|z|z:=z
     .exact hf x hi k' a! xj_
     .simp at z;omega
     .exact hf x hi k' a! (by rw[hl,IZ];exact HZ _ z)
    .rw[IF y]at z;exact hf x hx k' a! z)
   (λM' ρ J h2 f'=>hR M' ρ (by
    rw[xA]at J;rw[show B+(cs.length+1)=B+1+cs.length by omega,QS];simpa[sgn]using J) (by
    rw[xA]at h2;simpa[sgn]using h2) (q2.trans f'))
  have hp:∀R',Bx tA_ dK! (wl bZ_) ow_ M1 R'=R' (.nx ow_) xg_:=by
   intro R';simp[Bx,wl,Ay,Ii,Fc,Aa,fC,UQ,oF5,Jv,ZH,show Df bK_=some _ from rfl,l5]
  simp only[hp];exact this
def b4i{h n:Int}{s:Str}(hO:aQ_)(w:Ch W)(cu:e6_)(yq:Df b=some kb)(hB:g6!)(hs:j5!)
  (hf:∀x∈W.its,∀k':Nat,D.tup xa!∉(da!).map c_)
  (hR:∀M',Bt t M' o O xm! bt!->Ch xm!->Fr M O M' O->R .non M'):
  Hi t [aK!,g8!,i,b,dX_] M R:=by
 refine n!;simp only[Kg,Ah,As,Kl,wT,Bd,wl,Ab,Af,Aa];simp[hO.noOb oM2];refine gJ hO cu ?_;show"!v"
 .simp only[c1,KA]at hR;obtain⟨U,v,e1,e2,e3⟩:=pT b g7_ cz!;have hl:g8_<=16:=by simpa[Str.length]using hs
  have hi:Sb N! [X_,b5_,G_,dd!,some aS!,dd!,none,none,none]=some (s.cps.toList.zipIdx.map eN):=by
   simp[Sb,Aa,eN]
  have:=sV (t:=t) (o:=o) (O:=O) (b:=b) (tx:=dX_) (h:=h) (n:=n) s.cps.toList 0 M W B U v b kb none none none gZ_ a! hO w c1 e1 (by rw[<-e1];exact e3) yq (λx hx k' _=>hf x hx k')
   (λM' ρ J h2 f'=>hR M' (by rw[<-e2]at J;exact J.mono a!) (by rw[<-e2]at h2;exact h2) f')
  simp only[c1,QM,MC,JB,JT,Bp,Am,wl,Ec,Ja,Fc];exact this
 .simp only[c1,JT]at hR;have:=hR M oy! w .refl;simpa[c1,Om]using this
end
def dP{N:Mh}{b:xz!}(hb:N b≠none)(hq:N q=none):b≠q:=λz=>hb (by rw[z];exact hq)
section
variable{t:Ar}{M:Mh}{ρ:Ad}{R:Fl->Mh->Prop}
def c1i{fo fi f:WE}{q:WS}(h:f ρ M λv M1=>fo ρ M1 λd M2=>fi ρ M2 λy M3=>Fc py! λM4=>q ρ M4 R):Ah (Bx fo fi f) q ρ M R:=by exact h
def nW{f:WE}{q:WS}(h:f ρ M λ_ M1=>q ρ M1 R):Ah (Bq f) q ρ M R:=h
def tW{x:Str}{fs:aK_}{h1:j!}{ep:Nat}{fo fi:e_}{Q:cF_}(h0:xq!)(J:fi ρ=some y)(hM:M o=some oy_)(hx:fs.lookup x=some z!)(hp:bt_)(hk:bM!)(hl:cE!)
  (hQ:Q fs_):Ay C x cA! ρ M (λd M2=>wl fi ρ M2 λy M3=>Fc py! λM4=>Q M4):=by
 have e:Jv M z! y v=some fs_:=by simp[Jv,hp,hk,hl]
 simp only[Ay,wl,h0,Ii,hM,KA,hx,Fc,J,e];exact hQ
def d1k{g:WF}{fo:WE}{f1 f2:e_}{b:D}{K:r_}(h0:∀K,fo ρ M K=K d M)(ho:kR!)(J:dY_)(h2:fb_)(k:g [d,a,b] M K):Bd C m 3 g fo oz! ρ M K:=by unfold Bd Ab Af;rw[h0];simp only[wl,J,h2];exact oz_
def BW(t:Ar):WS:=Ah tr_
 (Ah ts_
 (Ah tt!
 (Ah tt_
 tu_)))
end
section
variable{t:Ar}{M M' M1:Mh}{ad bd:Nz->Addr}{V V':Ix}{B B':Nat}{x:D}{b:Bool}{ρ:Ad}{R:Fl->Mh->Prop}
def El.lv(h:aZ_){q:Nz}(l:Jp V q):M (ad q)≠none:=by obtain⟨c,e,_⟩:=h.ty q l;rw[e];simp
def El.alloc{rd:Nz}{N:Nz->Prop}(h:aZ_)(hB:cx_)(old:jP!)(cs:xt_)(nw:xu_)(ni:∀q q',N q->N q'->bd q=bd q'->q=q')
  (hd:∃c,M' (ad rd)=some c/\Ty t bd V' B' c rd)(nt:∀q,N q->∃c,M' (bd q)=some c/\Ty t bd V' B' c q)(k:∀q,Jp V q->q≠rd->M' (ad q)=M (ad q)/\Sm V V' q)(lr:Jp V rd):El t M' bd V' B':=by
 refine h.go hB old (λq q' l l' e=>?_) λq l=>?_
 .obtain l|l:=cs q l<;>obtain l'|l':=cs q' l'
  .rw[old q l,old q' l']at e;exact h.inj q q' l l' e
  .rw[old q l]at e;exact absurd (e▸nw q' l') (h.lv l)
  .rw[old q' l']at e;exact absurd (e▸nw q l) (h.lv l')
  .exact ni q q' l l' e
 .obtain l|l:=cs q l
  .by_cases e:q=rd
   .subst e;rw[old q l];exact .inl hd
   .exact .inr ⟨l,k q l e⟩
  .exact .inl (nt q l)
def b0f{rd:Nz}{N:Nz->Prop}(lr:Jp V rd)(old:jP!)(cs:xt_)(nw:xu_)(k:∀a,M a≠none->a≠ad rd->M' a=M a):Fr M oA! M' (Vx bd V'):=λa ha hn=>by
 refine⟨k a ha λz=>hn ⟨rd,lr,z.symm⟩,λ⟨q,l,e⟩=>?_⟩;obtain l|l:=cs q l
 .exact hn ⟨q,l,by rw[<-old q l];exact e⟩
 .exact ha (e▸nw q l)
nonrec def Ix.nw(V:Ix)(x:D)(b:Bool):Ix:={V.sl x b []with dm:=λc y=>V.dm c y\/(c=b/\y=x)}
def xN{q:WS}(h:aZ_)(hx:¬V.dm b x)(hk:dh!)(hB:B<3990)(hf:∀{a1 a2 a3 a4 a5 a6:xz!},(bJ!).lookup f=some (.fn (match b with|true=>a2|false=>a3)))(e0:xA_)(e1:xB!)
  (hR:∀M' bd,bd .ob=ad .ob->Fr M oA! M' (Vx bd oA_)->El t M' bd oA_ (B+1)->q ρ M' R):Ah (Bx (Ay t.B6 f l!) t_ gl_) q ρ M R:=by
 refine c1i (uL λr f p M1 z1 z2 z3 n1 n2 hr n3 fr=>?_);obtain⟨kd,ed,hd,ld,kv⟩:=h.dirV (b:=b);have m1:∀a,M a≠none->M1 a=M a:=λa ha=>fr a (dP ha z1) (dP ha z2) (dP ha z3);have ob:=(xE!).trans h.ob;have ZI:=(m1 _ ka_).trans hd;refine tW (p:=ad gY_) e0 e1 ob (hf.trans (by cases b<;>rfl)) ZI hk bs_ ?_
 let bd:Nz->Addr:=λq=>if q=.row x b then r else if q=.fol x b then f else if q=.pre x b then p else ad q
 have a1:bd e3!=r:=IB rfl;have a2:bd cw_=f:=(IF b_).trans (IB rfl);have a3:bd cx!=p:=(IF b_).trans ((IF b_).trans (IB rfl));have old:∀q,Jp V q->bd q=ad q:=λq l=>(oB!).trans ((oB!).trans oB!);have cs:∀q,Jp oA_ q->Jp V q\/xG_:=λq l=>by
  cases q with
  |row y c=>exact l.imp_right λz=>.inl dU!
  |fol y c=>exact l.imp_right λz=>.inr (.inl dU!)
  |pre y c=>exact l.imp_right λz=>.inr (.inr dU!)
  |_=>exact .inl l
 have nw:∀q,xG_->M (bd q)=none:=by
  rintro q (rfl|rfl|rfl)
  .rw[a1];exact z1
  .rw[a2];exact z2
  .rw[a3];exact z3
 obtain⟨kf,ef,kp,ep,hf,hp,K,Kp⟩:=hr.dc;have md:∀{c:Cw} {a:xz!},M a=none->mup M1 (ad gY_) c a=M1 a:=λha=>mup_ne (JE (dP ka_ ha));refine hR _ bd xH! (b0f (rd:=.dir b) trivial old cs nw λa ha hn=>(oB_).trans (m1 a ha)) ?_;refine h.alloc fa! old cs nw ?_ ⟨_,mup_same,_,_,rfl,j1_,λy=>?_⟩ ?_ (λq l hn=>⟨(mup_ne λz=>hn (h.inj q gY_ l trivial z)).trans xI!,?_⟩) trivial
 .rintro q q' (rfl|rfl|rfl) (rfl|rfl|rfl) e
  .rfl
  .rw[a1,a2]at e;exact absurd e n1
  .rw[a1,a3]at e;exact absurd e n2
  .rw[a1,a2]at e;exact absurd e.symm n1
  .rfl
  .rw[a2,a3]at e;exact absurd e n3
  .rw[a1,a3]at e;exact absurd e.symm n2
  .rw[a2,a3]at e;exact absurd e.symm n3
  .rfl
 .rw[jF];by_cases c:y=x
  .rw[IB c,c,a1];exact⟨cj_,λz=>absurd (.inr aE!) z⟩
  .rw[IF c];exact⟨λz=>by have z:=z.resolve_right λw=>c w.2;rw[old (.row y b) z];exact(kv y).1 z,λz=>(kv y).2 λw=>z (.inl w)⟩
 .rintro q (rfl|rfl|rfl)
  .rw[a1];exact⟨_,(md z1).trans hr.ob,by show Cw.obj _ _=Cw.obj _ [(_,.fn (bd cw_)),(_,.fn (bd cx!))];rw[a2,a3]⟩
  .rw[a2];exact⟨_,(md z2).trans hf,by show TF _ _ xJ_;rw[wY];exact⟨JK _,_,_,rfl,K⟩⟩
  .rw[a3];exact⟨_,(md z3).trans hp,by show TF _ _ (xJ_).reverse;rw[wY];exact⟨JK _,_,_,rfl,Kp⟩⟩
 .cases q with
  |dir c=>exact funext λy=>propext ⟨λz=>z.resolve_right λw=>hn (by rw[w.1]),.inl⟩
  |fol y c=>exact IF λz=>hx xK!
  |pre y c=>exact IF λz=>hx xK!
  |_=>rfl
nonrec def Ix.nn(V:Ix)(x:D)(l:b!):Ix:={V with nd:=λy=>V.nd y\/y=x,nu:=λy=>if y=x then l else V.nu y}
def b3a(h:aZ_)(hx:¬V.nd x)(hk:dh!)(hB:B<3990)(e0:xA_)(e1:xB!)
  (hR:∀M' bd,bd .ob=ad .ob->Fr M oA! M' (Vx bd oC_)->El t M' bd oC_ (B+1)->R ad_ M'):Bx m2! t_ tu! ρ M R:=by
 refine⟨U_,xM!,λq z=>?_⟩;obtain⟨_,hd,kd,ed,rfl,ld,kv⟩:=h.ty .nums trivial;have m1:∀{c:Cw} a,M a≠none->mup M q c a=M a:=λa ha=>mup_ne (dP ha z);refine tW (p:=ad .nums) e0 e1 ((xE!).trans h.ob) oF4 ((m1 _ ka_).trans hd) hk bs_ ?_
 let bd:Nz->Addr:=λr=>if r=.nm x then q else ad r
 have a1:bd jN_=q:=IB rfl;have old:∀r,Jp V r->bd r=ad r:=λr l=>IF λz=>hx xF_;have cs:∀r,Jp oC_ r->Jp V r\/r=.nm x:=λr l=>by
  cases r with
  |nm y=>exact l.imp_right λz=>by rw[z]
  |_=>exact .inl l
 have nw:∀r,r=.nm x->M (bd r)=none:=λr e=>by rw[e,a1];exact z
 refine hR _ bd xH! (b0f (rd:=.nums) trivial old cs nw λa ha hn=>(oB_).trans (m1 a ha)) ?_;refine h.alloc fa! old cs nw (λr r' e e' _=>e.trans e'.symm) ⟨_,mup_same,_,_,rfl,j1_,λy hy=>?_⟩ (λr e=>?_) (λr l hn=>⟨(mup_ne λz=>hn (h.inj r .nums l trivial z)).trans xI!,?_⟩) trivial
 .rw[jF];by_cases c:y=x
  .rw[IB c,c,a1]
  .rw[IF c,old (.nm y) xM_];exact kv y xM_
 .subst e;rw[a1];exact⟨_,(mup_ne (JE (dP ka_ z))).trans mup_same,by show Cw.lst _=Cw.lst (if x=x then _ else _);rw[A!];rfl⟩
 .cases r with
  |nums=>exact absurd rfl hn
  |nm y=>exact IF λz=>hx (by rw[<-z];exact l)
  |_=>rfl
end
section
variable{t:Ar}{M:Mh}{o:xz!}{O:Addr->Prop}{W:OW}{B:Nat}{R:D->Mh->Prop}
def b6n{ad:e2_}{V:Ix}{k:j!}{e:Nat}(h:aZ_)(hi:Hm i)(hl:jB_<=B)(h0:kget k root=some .non)(J:kget k Db=some .non)(hp:∀i p,V.pr i p->kget k i=some p):
  El t (mup M gW! (.dct (Bg k i x) e)) ad {V with pr:=λa p=>(V.pr a p/\a≠i)\/(a=i/\p=x)} (B+1):=by
 refine h.up fa! (r0:=.par) trivial ⟨_,_,rfl,j1_,?_,?_,?_⟩ λr hn l=>ol_
 .rw[mW hi.nn.2.1];exact h0
 .rw[mW hi.nn.2.2];exact J
 .rintro a p (⟨z,y⟩|⟨rfl,rfl⟩)
  .rw[mW (JE y)];exact hp a p z
  .rw[iU]
 .cases r with
  |par=>exact absurd rfl hn
  |_=>rfl
def a3a{o:D}{xs:b!}:(Nk n o xs).length=i_+1:=by obtain⟨u,v,e1,e2,_⟩:=nF n o xs;rw[e1,e1.symm,e2,e1];simp;omega
def b9e{M':Mh}{P:aQ!}(h:∀a,¬P a->M' a=M a):Fr M P M' P:=λa _ hn=>⟨h a hn,hn⟩
def c6n(hO:aQ_)(w:Ch W)(hn:n∉W.its)(ht:Hm n)(j5:dd_)(yq:Df b=some kb)(hB:g6!)(hg:Qt W.rows n fd_ b aj)
  (hR:∀M' O',Bt t M' o O' e0! bt!->Fr M O M' O'->R .non M'):Iy t [aK!,n,a,b] M R:=by
 obtain⟨kn,fw⟩:=ht.key;have hp:Ig W fd_:=by split;assumption;exact .inr gv!
 have nP:¬Ig W n:=λz=>z.elim hn λz=>z.elim ht.nn.2.1 ht.nn.2.2;refine n!;generalize hK:xO!=KK;have j9:∀ρ' M',R .non M'->KK bP! M':=λρ' M' z=>by rw[<-hK];exact z
 have key:∀pl,pl=fd_->BW t [X_,cB!,some a,dd!,some pl] M KK:=by
  intro pl ZJ;rw[<-ZJ]at hg hp;obtain⟨kpl,ZK⟩:=a1d w hp;obtain⟨ad,eo,hO,hI⟩:=hO;have pn:n∉D.non::Ho W.rows pl:=by
   rw[HV,OZ];exact⟨ht.nn.1,λz=>lO w hn pl oF!⟩
  subst eo;obtain⟨_,J,k1,e1,rfl,l1,p0,p1,pr⟩:=hI.ty .par trivial;have ZL:Aa 1 xP!=some n:=rfl;have f0:Aa 0 xP!=some jR!:=rfl;refine tW f0 ZL hI.ob oF1 J fw bs_ ?_;have I1:=b6n (e:=Hc k1 n e1) (x:=pl) hI ht l1 p0 p1 pr;have F1:Fr M (Vx ad bf!) (mup M gW! (.dct (Bg k1 n pl) (Hc k1 n e1))) (Vx ad bf!):=b9e λa ha=>tE (r0:=.par) trivial ha;obtain⟨k2,e2,h2,_,kv⟩:=I1.dirV (b:=true);have r1:=I1.row (b:=true) (x:=pl) hp;refine nW (d1k (d:=.fn (ad (.row pl true))) (a:=n) (b:=b) (λR'=>?_) (by simp only[Ed,r1.1.ob,rM.1,and_self]) rfl rfl (iX r1.1 fw yq pn (by have:=r1.2;omega) λM2 R2 K2=>?_))
  .simp[w2,wl,Ay,Ii,I1.ob,oF2,Ce,h2,ZK,(kv pl).1 hp,Fc,Aa]
  obtain⟨I2,f2⟩:=I1.sl (x:=pl) (b:=true) (B':=B+2) a! hp R2 K2 xP_;refine xN (b:=true) I2 nP fw a! oF2 rfl rfl λM3 a3 o3 F3 I3=>?_;refine xN (b:=false) I3 (λz=>z.elim hn λy=>by cases y.1) fw a! oF3 (by rw[o3];rfl) rfl λM4 a4 o4 F4 I4=>?_;refine b3a I4 hn fw a! (by rw[o4,o3];rfl) rfl λM5 a5 o5 F5 I5=>j9 _ _ ?_;have F:=((F1.trans (b9e f2)).trans F3).trans (F4.trans F5);have hm:∀q,q∈aj↔q=(n,pl)\/q∈W.rows:=λq=>by
   rw[hg.mem,jD];exact PD ⟨λz=>z.1,λz=>⟨z,λe=>lO w hn q.2 (by rw[<-e];exact z)⟩⟩
  have wn:wo W.rows n=W.rows:=KQ.mpr λq hq=>by simpa using λz=>lO w hn q.2 n1!
  have cn:Ho W.rows n=[]:=List.eq_nil_iff_forall_not_mem.mpr λc hc=>nP (w.rp _ _ (mO.mp hc));have np:pl≠n:=λz=>nP (z▸hp);have et:∀{P:e8!},(∃x∈W.its++[n],∃q∈jK_,P q)↔∃x∈W.its,∃q∈W.txt x,P q:=λ{P}=>by
   show"#1"
   .rintro⟨x,hx,q,hq,h⟩;by_cases c:x=n
    .rw[IB c]at hq;cases hq
    .rw[IF c]at hq;exact⟨x,(nW!).resolve_right λz=>c oH!,q,hq,h⟩
   .rintro⟨x,hx,q,hq,h⟩;exact⟨x,IT _ hx,q,by rw[IF λz:x=n=>hn (z▸hx)];exact hq,h⟩
  have hL:∀r,Jp kb_ r↔Jp (xR_) r:=λr=>by
   have d:∀(c:Bool) (y:D),(kb_).dm c y↔((bf!).dm c y\/(c=true/\y=n))\/(c=false/\y=n):=λc y=>by
    cases c with
    |true=>
     show"#1"
     .rintro(z|z)
      .exact .inl ((II.mp z).imp .inl λz=>⟨rfl,ef!⟩)
      .exact .inl fk!
     .rintro((z|z)|z)
      .exact Or.imp_left (IT _) z
      .exact .inl (by rw[z.2];exact HZ _ oJ!)
      .cases z.1
    |false=>show y∈W.its++[n]↔(y∈W.its\/_)\/_;simp
   cases r with
   |row y c=>exact d c y
   |fol y c=>exact d c y
   |pre y c=>exact d c y
   |nm y=>show y∈W.its++[n]↔y∈W.its\/y=n;simp
   |_=>exact Iff.rfl
  refine hR M5 (Vx a5 kb_) ⟨a5,o5.trans (o4.trans o3),xW!,I5.cv a! λr l=>⟨(hL r).mp l,?_⟩⟩ λc hc hr=>?_
  .have ls:∀(y:D) (c:Bool),(kb_).ls y c=(xR_).ls y c:=λy c=>by
    show _=if y=n/\c=false then[]else if y=n/\c=true then[]else if y=pl/\c=true then Nk n b xQ_ else(bf!).ls y c
    cases c with
    |true=>
     rw[T_];show Ho aj y=_;by_cases c1:y=n
     .rw[IB oL!,c1,hg.chl_ne np,wn,cn]
     .rw[xY!];by_cases c2:y=pl
      .rw[IB ⟨c2,rfl⟩,c2,xY_,wn]
      .rw[IF λz=>c2 z.1,hg.chl_ne (JE c2),wn];rfl
    |false=>
     show(wu!).map c_=_;by_cases c1:y=n
     .rw[IB c1,IB oL!];rfl
     .rw[IF c1,xY!,T_,T_];rfl
   cases r with
   |par=>exact funext λi=>funext λp=>propext ((hm bH!).trans ⟨λz=>z.elim xZ! λz=>.inl ⟨z,λe=>lO w hn p (e▸z)⟩,λz=>z.elim (λz=>.inr z.1) λz=>.inl dU!⟩)
   |dir c=>exact funext λy=>propext (hL (.row y c))
   |nums=>exact funext λy=>propext (hL (.nm y))
   |wri=>exact funext λs=>funext λv=>propext et
   |hid=>exact funext λs=>propext et
   |fol y c=>exact ls y c
   |pre y c=>exact ls y c
   |nm y=>rfl
   |_=>rfl
  .obtain⟨f1,f2⟩:=F c hc λz=>hr kc!
   exact⟨f1,λ⟨r,l,e⟩=>f2 ⟨r,(hL r).mp l,e⟩⟩
 have hh:∀K:D->Mh->Prop,Ek t [aK!,a] M K->Bd t.B6 "has" 2 (Ek t) l! dI_ [X_,cB!,some a,dd!,none] M K:=λK ui=>⟨hO.noOb b3_,rfl,ui⟩;refine hh _ (b8y hO j5 ?_);by_cases c:Ig W a
 .rw[IY c];exact key a (by rw[IB c])
 .rw[IG c];exact key Db (by rw[IF c])
def sJ(hO:aQ_)(w:Ch W)(cu:e6_)(hkx:oj_)(nj:Df s=some ks)(hB:g6!)
  (hR:∀M',(dU_->∀aj,Qt W.rows i x s aj->Bt t M' o O {W with rows:=aj} bt!)->(¬dU_->Bt t M' o O W bt!)->Fr M O M' O->R .non M'):
  Gk t [aK!,i,x,s] M R:=by
 refine n!;show Ah tx_ (Ah _ (Ah _ _)) [X_,G_,bJ_,b6!] M _;simp only[Ah,As,Kl,wT,Bd,wl,Ab,Af,Aa,List.getElem?_cons_zero,List.getElem?_cons_succ,Option.join_some];refine⟨hO.noOb b3_,rfl,?_⟩;refine a5k hO w cu hkx λb hb=>?_;cases b with
 |false=>
  have hc:¬dU_:=λz=>by have:=hb.mpr z;cases this
  have:=hR M (λz=>absurd z hc) (λ_=>hO.mono a!) .refl;simpa[Om]using this
 |true=>
  obtain⟨hi,hx,hw⟩:=hb.mp rfl;obtain⟨p0,gf⟩:=a6o w hi;have vn:Ig W p0:=w.rp _ _ gf;obtain⟨yk,ZM⟩:=a1d w vn;obtain⟨uu,vv,c1,c2⟩:=a8p w.rnd gf;obtain⟨ad,rfl,hO,hI⟩:=hO;obtain⟨_,J,k1,e1,rfl,l1,q0,q1,pr⟩:=hI.ty .par trivial;obtain⟨k2,e2,h2,_,kv⟩:=hI.dirV (b:=true);have r0:Kj t M x2_ (ad (.fol p0 true)) (ad (.pre p0 true)) (uu++i::vv)/\(uu++i::vv).length<=B:=by rw[<-c1];exact hI.row (b:=true) (x:=p0) vn
  have ZN:∀R',w2 Ce dJ_ m0_ x3_ M R'=R' (.fn x2_) M:=by
   intro R';simp[w2,wl,Ay,Ii,hI.ob,oF1,oF2,Ce,J,h2,cu,pr i p0 gf,ZM,(kv p0).1 vn,Fc,Aa]
  simp only[Bool.not_true,Bool.false_eq_true,if_false,Bp,Bq,Bd,ZN];refine⟨by simp only[Ed,r0.1.ob,rM.2.1,and_self],rfl,?_⟩;refine a2f r0.1 cu (by have:=r0.2;omega) λM1 R1 K1=>?_;rw[<-c2]at R1;obtain⟨I1,f1⟩:=hI.sl (x:=p0) (b:=true) (Nat.le_refl B) vn R1 K1 (by have:=r0.2;rw[c2];simp at this ⊢;omega);obtain⟨k2,e2,h2,_,kv⟩:=I1.dirV (b:=true);obtain⟨_,J,k1,e1,rfl,l1,q0,q1,pr⟩:=I1.ty .par trivial;have ZO:(x4!).ls x true=Ho hd! x:=by
   show(if x=p0/\true=true then _ else Ho W.rows x)=_;by_cases e:x=p0
   .rw[if_pos ⟨e,rfl⟩,e]
   .rw[if_neg λz=>e z.1,yL λz=>e x4_]
  have r1:=I1.row (b:=true) (x:=x) hx;rw[ZO]at r1;have ZP:∀R',w2 Ce dJ_ D! x3_ M1 R'=R' (.fn (ad (.row x true))) M1:=by
   intro R';simp[w2,wl,Ay,Ii,I1.ob,oF2,Ce,h2,hkx,(kv x).1 hx,Fc,Aa]
  simp only[ZP];refine⟨by simp only[Ed,r1.1.ob,rM.1,and_self],rfl,?_⟩;refine iX r1.1 cu nj (by rw[List.mem_cons,not_or];exact⟨(j0!).nn.1,λz=>(jD.mp oF!).2 rfl⟩) (by have:=r1.2;omega) λM2 R2 K2=>?_;obtain⟨I2,f2⟩:=I1.sl (x:=x) (b:=true) (Nat.le_succ B) hx R2 K2 xP_;have iy:=(K2 gW! (λz=>by have:=I1.inj .par (.fol x true) trivial hx z;cases this) λz=>by have:=I1.inj .par (.pre x true) trivial hx z;cases this).trans J;have fin:R .non (mup M2 gW! (.dct (Bg k1 i x) (Hc k1 i e1))):=by
   have I3:=b6n (e:=Hc k1 i e1) (x:=x) I2 j0! (Nat.le_succ_of_le l1) q0 q1 pr;refine hR _ (λ_ aj hg=>⟨ad,rfl,hO,I3.cv a! λr l=>ol_⟩) (λz=>absurd ⟨hi,hx,hw⟩ z) λc hc hr=>⟨(tE (V:=Km W) (r0:=.par) trivial λz=>hr kc!).trans ((f2 c λz=>hr kc!).trans (f1 c λz=>hr kc!)),hr⟩;have ls:∀(y:D) (c:Bool),(Km {W with rows:=aj}).ls y c=((x4!).sl x true (Nk i s (Ho hd! x))).ls y c:=λy c=>by
    show _=if y=x/\c=true then _ else if y=p0/\c=true then _ else(bf!).ls y c
    cases c with
    |false=>rw[if_neg b_,if_neg b_];rfl
    |true=>
     show Ho aj y=_;by_cases c1:y=x
     .rw[if_pos oL!,c1,xY_]
     .rw[if_neg λz=>c1 z.1,hg.chl_ne (Ne.symm c1)];by_cases c2:y=p0
      .rw[if_pos ⟨c2,rfl⟩,c2]
      .rw[if_neg λz=>c2 z.1,yL λz=>c2 x4_];rfl
   cases r with
   |par=>exact funext λa=>funext λp=>propext (hg.mem.trans ⟨λz=>z.elim xZ! λz=>.inl (jD.mp z),λz=>z.elim (λz=>.inr (jD.mpr z)) λz=>.inl dU!⟩)
   |fol y c=>exact ls y c
   |pre y c=>exact ls y c
   |dir c=>cases c<;>rfl
   |_=>rfl
  simpa[Bx,wl,Ay,Ii,Fc,Aa,I2.ob,oF1,Jv,iy,cu,show k1.length<big by unfold big;omega]using fin
end
end K22
namespace K22
open PySem L2 DL
nonrec def Ar.nd(t:Ar):Prop:=[t.A0,t.A7,t.A8,t.A9,t.B0,t.B1,t.B2,t.B3,t.B4].Nodup
def Lg(c:Nat):Bool:=decide (32<=c)&&decide (c<=126)&&!(c==37)
def Th(s:Str):Bool:=decide (au_<=1000)&&s.cps.toList.all Lg
def c7y(a c:Nat):Qz ⟨#[a]⟩ at!=decide (a<=c):=by
 unfold Qz;simp only[List.cons_lt_cons_iff,List.not_lt_nil,and_false,LH];by_cases h:c<a
 .simp[h]
 .simp[h];omega
def b2y:(" ":Str)=⟨#[32]⟩:=by decide+kernel
def b2x:("~":Str)=⟨#[126]⟩:=by decide+kernel
def c8v(c:Nat):Gq [eK_]=some (.bl (Lg c)):=by
 push_cast[Gq,Rk,Yc,b2y,b2x,c7y,Str.length,Lg]
 by_cases J:32<=c<;>by_cases h2:c<=126<;>simp[J,h2];rw[LR];simp;omega
def vO(ρ:Ad)(nq:ρ=de!):∀(cs:k!),cs.all Lg=true->
  Dz L! aV_ iR_ ρ (cs.map λc=>.str at!)=some kd!
 |[],_=>rfl
 |c::cs,h=>by
  rw[OD,JD]at h;have ih:=vO ρ nq cs h.2;subst nq;simp only[IE,Dz,ih];simp[Bf,f1,Ac,Aa,Ag,c8v,h.1]
def vS:∀(cs:k!),Mr x6_=some x7!
 |[]=>rfl
 |c::cs=>by simp only[IE,Mr,vS cs,PQ]
def a1m(a b:Str):Eh (.str a) (.str b)=fF_:=by unfold Eh;rfl
def c3w(a b:Int):Eh (.int a) (.int b)=fF_:=by unfold Eh;rfl
def a5q(s:Str):∀xs:List Str,x7_=xs.any (·==s)
 |[]=>rfl
 |x::xs=>by rw[IE,NC,NC,a5q s xs,a1m]
def c3k(s:Str)(xs:o!):Ug false aS! (.tup ke!)=some (.bl (xs.any (·==s))):=by
 have h:(ke!).all Kh=true:=by simp[LZ,Kh]
 show(if Kh aS!&&(ke!).all Kh then some (D.bl x7_)else none)=_;rw[h,a5q];rfl
def gB(a b:Str):Bb (.str a) (.str b)=some (.bl fF_):=by simp[Bb,Az,Gx,a1m]
def in2(k a b:Str):Ug false P! oO!=some (.bl oO_):=by have:=c3k k al!;simpa only[IE,NN,NC,List.any_nil,Bool.or_false]using this
def sQ(a b:Int):Bb (.int a) (.int b)=some (.bl fF_):=by simp[Bb,Az,Gx,c3w]
abbrev scr(ns:r!):D:=.lst jg_
def a1v{α:Type}{xs:O!}{i:Int}(h0:0<=i)(J:i<i_):∃x,Cs xs i=some x/\x∈xs:=by refine⟨xs[i.toNat]' a!,?_,LG _⟩;unfold Cs Du;rw[IB h0,IB J];simp
def b1m(ns:r!)(k:Int):∃c,Jy [b6_,hd_]=some (.int c):=by
 cases ns with
 |nil=>exact⟨0,by push_cast[Jy,Rx,scr,Vl]⟩
 |cons n r=>
  have hp:(0:Int)<he!+1:=by omega
  obtain⟨x,e,hx⟩:=a1v (xs:=yb_) (i:=k%(he!+1)) (LB _ a!) (by simpa using KI k hp);obtain⟨c,_,rfl⟩:=IU.mp hx;refine⟨c,?_⟩;have e':Aj (.lst yb_) (.int (k%(he!+1)))=some (.int c):=e;simp only[IE]at e';simp[Jy,Rx,scr,By,Bc,sSeq,Ge,Cj,Aa,Vl,f2,f1,Ac,Ag,Bi,Bo,Ds,hp,e']
def gR(ns:r!){k:Int}:∃m,Bn [b6_,hd_]=some cz_/\0<=m/\m<4294967231:=by obtain⟨c,hc⟩:=b1m ns k;refine⟨_,by push_cast[Bn,Ws,hc,Ti];rfl,LB _ c!,KI _ c!⟩
def jW{n:Int}(h:xs≠[]):∃x,Cz [.lst xs,aR!]=some x/\x∈xs:=by
 have hl:0<i_:=List.length_pos_iff.mpr h;have hp:(0:Int)<i4_:=by omega
 obtain⟨x,e,hx⟩:=a1v (xs:=xs) (i:=n%i4_) (LB _ a!) (KI n hp);refine⟨x,?_,hx⟩;have e':Aj Q_ (.int (n%i4_))=some x:=e;simp[Cz,Vc,By,Bc,Aa,f2,f1,Ac,Ag,Bi,Bo,Ds,hp,e',hl]
def oZ{bnd:ad!}{q:aJ_}(P:Nat->Ad->Prop):∀(ds:b!) (i:Nat) (ρ:Ad),P i ρ->
  (∀(j:Nat) (d:D) (ρ:Ad),ds[j]?=some d->P (i+j) ρ->∃am ba,bnd d ρ=some am/\q am=some (.nx ba)/\P (i+j+1) ba)->
  ∃ρ',Qj bnd q ds ρ=some bP!/\P (i+f_) ρ'
 |[],i,ρ,h,_=>⟨ρ,rfl,h⟩
 |d::ds,i,ρ,h,hs=>by
  obtain⟨am,ba,e1,e2,h2⟩:=hs 0 d ρ rfl h;obtain⟨ρ',e3,h3⟩:=oZ P ds ab_ ba h2 λj d ρ hd hp=>by
   have:=hs bS_ d ρ (by simpa using hd) (by rw[show i+bS_=i+1+j by omega];exact hp);rw[show i+bS_+1=i+1+j+1 by omega]at this;exact this
  refine⟨ρ',?_,by rw[IH,show i+(ds.length+1)=i+1+ds.length by omega];exact h3⟩;simp[Qj,e1,e2,e3]
def mD{bnd:ad!}{ft:W_}{fe:e_}{ρ:Ad}(R:D->Prop):∀(ds:b!),(∀d∈ds,∃am b,bnd d ρ=some am/\ft am=some b/\(b=true->∃y,fe am=some y/\R y))->
  ∃ys,Dz bnd ft fe ρ ds=some ys/\ah!<=f_/\∀y∈ys,R y
 |[],_=>⟨[],rfl,IN _,λy hy=>by cases hy⟩
 |d::ds,h=>by
  obtain⟨am,b,e1,e2,hy⟩:=h d HX;obtain⟨ys,e3,hl,hr⟩:=mD R ds λx hx=>h x cB_
  cases b with
  |false=>exact⟨ys,by simp[Dz,e1,e2,e3],dZ_,hr⟩
  |true=>
   obtain⟨y,e4,r4⟩:=hy rfl;refine⟨y::ys,by simp[Dz,e1,e2,e3,e4],dZ_,k4!⟩;obtain rfl|hz:=HV.mp hz
   .exact r4
   .exact hr z hz
def rS{bnd:ad!}{fe:e_}{ρ:Ad}:∀{ds ys:b!},Dz bnd aV_ fe ρ ds=some ys->ah!=f_
 |[],ys,e=>by cases e;rfl
 |d::ds,ys,e=>by
  unfold Dz at e;obtain⟨am,e1,e⟩:=HN.mp e;simp only[MX,KA]at e;obtain⟨y,e3,e⟩:=HN.mp e;obtain⟨zs,e4,rfl⟩:=IA.mp e;simp[rS e4]
def NameG(x:D):Prop:=∃a b,x=.tup wq!/\0<=a/\a<16/\1<=b/\b<=2000
def Cb(x:D):Prop:=x=.str "root"\/x=.str "bin"\/NameG x
def Md(x:D):Prop:=x=.non\/NameG x
def Xb(x:D):Prop:=∃a b c,x=.tup wq_/\0<=a/\a<16/\1<=b/\b<=2000/\0<=c/\c<=15
def Ki(x:D):Prop:=x=.non\/Xb x
inductive DG:D->Prop
 |put {a b:D}:Cb a->Md b->DG fg!
 |move {a b c:D}:Cb a->Cb b->Md c->DG hf!
 |drop {a:D}:Cb a->DG hf_
 |write {a b:D} {s:Str}:Cb a->Ki b->Th s=true->1<=au_->au_<=16->DG hg!
 |cut {a:D} {x y z m:Int}:Cb a->Xb e9!->1<=m->z+m<=16->DG fh!
 |set {a:D} {p n:Int}:Cb a->0<=p->p<=3->n.natAbs<10 ^ 60->DG (.tup [fh_,a,.int p,aR!])
 |undo {a:D}:NameG a->DG (.tup [oS_,a])
 |redo {a:D}:NameG a->DG (.tup [.str "redo",a])
def Ul(o:D):Prop:=∃h n tm d,o=.tup [aR_,aR!,.int tm,d]/\0<=h/\h<16/\1<=n/\n<=2000/\DG d
def a5d(h:DG d):∃k r,d=.tup de_/\(k="write"->∃a b s,r=[a,b,dX_]/\au_<=16):=by
 cases h with
 |write _ _ _ _ h5=>exact⟨_,_,rfl,λ_=>⟨_,_,_,rfl,h5⟩⟩
 |_=>exact⟨_,_,rfl,λz=>absurd z j_⟩
def a4f{ops:b!}(h:kg!)(hl:kh!):∃its,Ia [.lst ops]=some oT!/\3<=gy!/\gy!<=200/\∀x∈its,Cb x:=by
 obtain⟨ys,e,l,hr⟩:=mD (ρ:=de!) (bnd:=Bf 0) (ft:=fT nr!) (fe:=Au gB_)
  (yg!) ops (by
   intro o ho;obtain⟨h',n,tm,d,rfl,b1,b2,b3,b4,hd⟩:=h o ho;obtain⟨k,r,rfl,_⟩:=a5d hd;refine⟨_,_,rfl,by push_cast[gB];rfl,λ_=>⟨_,by push_cast,yg_⟩⟩)
 have hc:Fv 1 [] eI_ L! (fT nr!) (Au gB_) [av!]=some bb!:=by
  show yh_;rw[df_,e];rfl
 have a1:An (.lst [.str "root"]) bb!=some yi!:=by
  show(if 1+ah!<=big then some (D.lst ([.str "root"]++ys))else none)=_;rw[df_];rfl
 have a2:An yi! (.lst kh_)=some (.lst (.str "root"::(ys++kh_))):=by
  show(if ah!+1+2<=big then some (D.lst (.str "root"::ys++kh_))else none)=_;rw[df_];rfl
 refine⟨.str "root"::(ys++kh_),by simp[Ia,Tf,By,Bc,f2,fC,hc,a1,a2],Q!,dZ_,aB!⟩;simp at hx;obtain rfl|hx|rfl|rfl:=hx
 .exact cM_
 .exact .inr (.inr (hr x hx))
 .exact .inr aj_
 .exact .inr (.inr ⟨9,9,rfl,U_,U_,U_,U_⟩)
def b4v{ops:b!}(h:kg!)(hl:kh!):∃ss,Lm [.lst ops]=some (.lst ss)/\ss≠[]/\∀x∈ss,Ki x:=by
 let P:Nat->Ad->Prop:=λi ρ=>∃c6 x y,ρ=[av!,oU_,x,y]/\c6≠[]/\oV!<=2+16*i/\∀z∈c6,Ki z
 obtain⟨ρ',e,c6,x,y,rfl,f0,_,hf⟩:=oZ (bnd:=Cq 2) (q:=Ge ut_ uv! Cj)
  P ops 0 [av!,some (.lst [.non,.tup [.int 9,.int 9,.int 3]]),none,none] ⟨_,_,_,rfl,by simp,by simp,by
   intro z hz;simp at hz;obtain rfl|rfl:=hz
   .exact cM_
   .exact .inr ⟨9,9,3,rfl,U_,U_,U_,U_,U_,U_⟩⟩ (by
  rintro j d ρ hd ⟨c6,x,y,rfl,f0,fl,hf⟩;have hj:j<kg_:=(IJ.mp hd).1;obtain⟨h',n,tm,d',rfl,b1,b2,b3,b4,ZQ⟩:=h d (NH hd);obtain⟨k,r,rfl,hw⟩:=a5d ZQ;by_cases hk:k="write"
  .subst hk;obtain⟨a,b,s,rfl,ZR⟩:=hw rfl;have yn:au_<=big:=by unfold big;omega
   let P2:Nat->Ad->Prop:=λi ρ=>∃c6 y,ρ=yk!/\c6≠[]/\oV!<=2+16*(0+j)+i/\∀z∈c6,Ki z
   obtain⟨ba,e2,UR,y2,rfl,ZS,ZT,wx⟩:=oZ (bnd:=Cq 3) (q:=Rq 1 uu_) P2 (Cy au_) 0
    (yk!) ⟨c6,y,rfl,f0,fl,hf⟩ (by
     rintro i d ρ hd ⟨c6,y,rfl,f0,fl,hf⟩;unfold Cy at hd;rw[JN]at hd;obtain⟨i',de,rfl⟩:=IA.mp hd;obtain⟨au,he⟩:=IJ.mp de;rw[PZ]at he;subst he;rw[NJ]at au;have hb:oV!<big:=by unfold big;omega
     refine⟨_,_,rfl,by push_cast[Rq,hb];rfl,c6++[.tup [.int h',aR!,.int (i:Nat)]],_,rfl,Q!,dZ_,k4!⟩;obtain hz|hz:=II.mp hz
     .exact hf z hz
     .simp at hz;subst hz;exact .inr ⟨_,_,_,rfl,b1,b2,b3,b4,s_,s_⟩)
   have hr:-1000<=ki_/\ki_<=100000:=by omega
   refine⟨_,[av!,some (.lst UR),yj_,y2],rfl,by push_cast[gB,Qu,Fj,yn,hr,e2],UR,_,_,rfl,ZS,?_,wx⟩;simp[Cy]at ZT;omega
  .refine⟨_,[av!,oU_,some (.tup [.int h',aR!,.int tm,.tup de_]),y],rfl,by push_cast[gB,hk],c6,_,_,rfl,f0,s_,hf⟩)
 refine⟨c6,?_,f0,hf⟩;simp[Lm,Te,Ni,By,sSeq,Ac,Ag,fC,Qu,Ei,Aa,Bc,e]
abbrev letters:Str:=" abcXYZ.,;!019~[]\\\"'|{}<>@#$&*()-+/=_^:?`"
def rL:oV_=41:=by decide+kernel
def a7x:letters.cps.toList.all Lg=true:=by decide+kernel
def b3v:(kj_).cps=#[]:=by decide+kernel
def b3u:(kj_).length=0:=by decide+kernel
def Qi(c:Nat):D:=.str at!
def a2g:∀(xs:b!),(∀x∈xs,∃c,x=Qi c/\Lg c=true)->∃cs:List Nat,xs=cs.map Qi/\cs.all Lg=true
 |[],_=>⟨[],rfl,rfl⟩
 |x::xs,h=>by
  obtain⟨c,rfl,hc⟩:=h x HX;obtain⟨cs,rfl,pp⟩:=a2g xs λy hy=>h y dO_
  exact⟨c::cs,rfl,by simp only[OD,hc,pp,NO]⟩
def wV:∀(cs:k!),Sr oW!=some kk!
 |[]=>rfl
 |c::cs=>by simp only[IE,Qi,Sr];rw[show List.map Qi cs=List.map Qi cs from rfl,wV cs];rfl
def a4p:∀(cs:k!) (acc:Array Nat),(kk!).foldl (λacc p=>acc++(kj_).cps++p.cps) acc=acc++cs.toArray
 |[],acc=>by simp
 |c::cs,acc=>by
  rw[IE,NX,a4p cs,b3v];simp
def b8o(cs:k!):Txt.join kj_ kk!=oW_:=by
 unfold Txt.join Builtin.Str.glued;cases cs with
 |nil=>rfl
 |cons c cs=>
  simp only[IE,List.drop_succ_cons,List.drop_zero,List.headD_cons];rw[a4p];simp
def a9e:∀(cs:k!),((kk!).map (·.length)).sum=dc_
 |[]=>rfl
 |c::cs=>by
  have ih:=a9e cs;simp only[IE,List.sum_cons,IH];rw[ih];show 1+dc_=_;omega
def c1a{n most:Int}(J:1<=most)(h16:most<=16):∃s,Nm [aR!,.int most]=some aS!/\Th s=true/\1<=au_/\au_<=16:=by
 have hm0:0<=n%most:=LB _ a!;have US:n%most<most:=KI _ a!;obtain⟨N,hN⟩:∃N:Nat,(N:Int)=1+n%most:=⟨(1+n%most).toNat,s_⟩;have ZU:1<=N:=by omega
 have hN2:N<=16:=by omega
 obtain⟨ys,e,l,hr⟩:=mD (ρ:=yo!) (bnd:=Bf 0) (ft:=oX_) (fe:=f2 Aj C_ uw_)
  (λy=>∃c,y=Qi c/\Lg c=true) fj_ (by
   intro d hd;unfold Cy at hd;obtain⟨i,hi,rfl⟩:=IU.mp hd;have de:=PF.mp hi;have z1:(0:Int)<1+3*(i:Int):=by omega
   have z2:1+3*(i:Int)<1073741824:=by omega
   have av:oV_<=big:=by rw[rL];decide
   have hsz:((yp!:Nat):Int)=41:=by
    have:yp!=41:=by rw[<-rL];simp[Str.length]
    omega
   obtain⟨c,ec,hc⟩:=a1v (xs:=letters.cps.toList) (i:=n / (1+3*(i:Int))%41) (LB _ c!) (by rw[hsz];exact KI _ c!);have hix:Aj oY! (.int (n / (1+3*(i:Int))%41))=some (Qi c):=by
    show(if oV_<=big then(Cs letters.cps.toList _).map _ else none)=_;rw[IB av,ec];rfl
   refine⟨_,true,rfl,rfl,λ_=>⟨Qi c,?_,c,rfl,LZ.mp a7x c hc⟩⟩;simp[Bf,f2,Aa,fC,An,De,Ds,Ti,Bz,Bo,z1,z2,hix])
 have l2:=rS e;obtain⟨cs,rfl,pp⟩:=a2g ys hr;have b8:dc_=N:=by simpa[Cy]using l2
 have ZV:-1000<=(N:Int)/\(N:Int)<=100000:=by omega
 have hc:Fv 1 [0,2] (Fj nr_) L! aV_ ux_ yq_=some (.lst oW!):=by
  have hi:Fj nr_ yq_=some fj_:=by
   simp[Fj,f2,fC,Aa,Bo,Ds,show 0<most by omega,An,<-hN,ZV]
  unfold Fv;rw[hi];show(if(fj_).length<=big then Option.map D.lst (Dz _ _ _ yo! fj_)else none)=_;rw[IB (by simp[Cy,big];omega),e];rfl
 have hj:Ve (.str "") (.lst oW!)=some (.str oW_):=by
  unfold Ve;simp only[wV,MX,a9e,IP,b3u,Nat.mul_zero,Nat.add_zero,b8o];rw[df_]
 refine⟨oW_,?_,?_,?_,?_⟩
 .simp[Nm,Va,By,sSeq,Cd,fC,Bc,Ww,hc,hj]
 .simp only[Th,Str.length,HY,pp,Bool.and_true,JC];omega
 .simp only[Str.length,HY];omega
 .simp only[Str.length,HY];omega
def HI:Ad->Option Fl:=uz!
def HH:Ad->Option Fl:=uz_
def HG:Ad->Option Fl:=uA!
def HF:Ad->Option Fl:=uB_
def GH:Ad->Option Fl:=uC!
def HE:Ad->Option Fl:=uD!
def HD:Ad->Option Fl:=uE!
def HC:Ad->Option Fl:=uF_
def HB:Ad->Option Fl:=uH_
def HA:Ad->Option Fl:=uJ!
def CI:Ad->Option Fl:=uJ_
def CH:Ad->Option Fl:=uL!
def AC:Ad->Option Fl:=uN_
def Yf:Ad->Option Fl:=uR!
nonrec def dq14:Ad->Option Fl:=uS!
nonrec def dq15:Ad->Option Fl:=uS_
def DJ:Ad->Option Fl:=(sSeq HC (sSeq HB (sSeq HA (sSeq CI yr_))))
def b2g:Pe=(sSeq HI (sSeq HH (sSeq HG (sSeq HF (sSeq GH (sSeq HE (sSeq HD DJ))))))):=rfl
def bD{q1 q2:aJ_}{ρ ρ':Ad}(h:q1 ρ=some bP!):sSeq q1 q2 ρ=q2 ρ':=by simp[sSeq,h]
def mZ{q1 q2:aJ_}{ρ:Ad}(h:q1 ρ=some aP_):sSeq q1 q2 ρ=some aP_:=by simp[sSeq,h]
def iD{f:e_}{ρ:Ad}{i:Nat}(h:cs_):Cd i f ρ=some (.nx bG_):=by simp[Cd,h]
abbrev kinds:List D:=[kf!,kf!,kf!,oR_,oR_,kf_,kf_,.str "cut",fh_,oS_,.str "redo",.str "drop"]
def KindOk(k:Str):Prop:=k="put"\/k="move"\/k="write"\/k="cut"\/k="set"\/k="undo"\/k="redo"\/k="drop"
def a5i{α:Type}{xs:O!}{lo hi:aW!}{x:α}(h:x∈Dh xs lo hi):x∈xs:=List.mem_of_mem_drop (List.mem_of_mem_take h)
def Qg:D->D
 |.str _=>.non
 |d=>d
def a4g(h:Cb d\/d=.non):(Fq "str" d=some true/\Qg d=.non)\/(Fq "str" d=some false/\Qg d=d/\Md d):=by
 rcases h with(rfl|rfl|⟨a,b,rfl,h⟩)|rfl
 .exact .inl aE!
 .exact .inl aE!
 .exact .inr ⟨rfl,rfl,.inr ⟨a,b,rfl,h⟩⟩
 .exact .inr ⟨rfl,rfl,cM_⟩
def c9d(ns:r!){base most:Int}{ops:b!}(h:kg!)(hl:kh!):∃m0 its item jd k,0<=m0/\its≠[]/\(∀x∈its,Cb x)/\Cb item/\Md jd/\KindOk k/\
  Pe ys_=DJ oZ!:=by
 obtain⟨m0,e0,p0,_⟩:=gR ns (k:=base);obtain⟨m1,e1,_,_⟩:=gR ns (k:=base+1);obtain⟨m2,e2,_,_⟩:=gR ns (k:=base+2);obtain⟨its,ei,i3,i200,oo⟩:=a4f h hl;have vo:its≠[]:=by intro z;subst z;simp at i3
 have rl:yt!≠[]:=by
  intro z;have z2:=congrArg List.length z;simp[Dh,HT.sIx]at z2;omega
 have b8:(yt_).length+(yu!).length<=big:=by
  simp[Dh,HT.sIx,big];omega
 obtain⟨item,ep,mp⟩:=jW (n:=m1) rl;have oq:Cb item:=by
  obtain z|z:=II.mp mp
  .exact oo _ (a5i z)
  .exact oo _ (a5i z)
 have a1:An (.lst yt_) (.lst yu!)=some (.lst yt!):=by
  show hj!;rw[IB b8]
 have a2:An oT! (.lst jj_)=some (.lst (its++jj_)):=by
  show(if gy!+2<=big then _ else none)=_;rw[df_]
 obtain⟨b6,eo,mo⟩:=jW (n:=m2) (xs:=its++jj_) b_;have uj:Cb b6\/b6=.non:=by
  obtain z|z:=II.mp mo
  .exact .inl (oo _ z)
  .simp at z;exact .inr z
 have mv:Md (Qg b6):=by
  obtain⟨_,z⟩|⟨_,z,y⟩:=a4g uj
  .rw[z];exact .inl rfl
  .rw[z];exact y
 obtain⟨kd,ek,mk⟩:=a1v (xs:=kinds) (i:=m0%12) (LB _ c!) (by show _<(12:Int);exact KI _ c!);obtain⟨k,rfl,hk⟩:∃k,kd=.str k/\KindOk k:=by
  simp[kinds]at mk;unfold KindOk;obtain rfl|rfl|rfl|rfl|rfl|rfl|rfl|rfl:=mk<;>exact⟨_,rfl,Q!⟩
 have ZW:Aj (.lst kinds) (.int (m0%12))=some P!:=ek;refine⟨m0,its,item,Qg b6,k,p0,vo,oo,oq,mv,hk,?_⟩;rw[b2g];rw[bD (ρ':=[ae_,ao_,av!,bh!,bL_,none,none,none,none,none,none,none]) (iD (by simp[f1,Ac,Aa,Ag,e0]))];rw[bD (ρ':=[ae_,ao_,av!,bh!,bL_,b7!,none,none,none,none,none,none]) (iD (by simp[f1,Ac,Aa,Ag,ei]))];rw[bD (ρ':=[ae_,ao_,av!,bh!,bL_,b7!,cC_,none,none,none,none,none]) (iD (by
  have b1:An kl_ a9!=some (.int (base+1)):=rfl;simp[f1,Ac,Aa,Ag,f2,Fd,Be,Av,Aw,fC,a1,b1,e1,ep]))]
 rw[bD (ρ':=[ae_,ao_,av!,bh!,bL_,b7!,cC_,some b6,none,none,none,none]) (iD (by
  have b1:An kl_ bB!=some (.int (base+2)):=rfl;simp[f1,Ac,Aa,Ag,f2,fC,a2,b1,e2,eo]))]
 rw[bD (ρ':=[ae_,ao_,av!,bh!,bL_,b7!,cC_,o0!,none,none,none,none]) (by
  obtain⟨z1,z2⟩|⟨z1,z2,_⟩:=a4g uj<;>simp[GH,Ge,fT,Eg,Aa,z1,z2,Cj,Cd,fC])]
 rw[bD (ρ':=[ae_,ao_,av!,bh!,bL_,b7!,cC_,o0!,fk_,none,none,none]) (iD c5_)];rw[bD (ρ':=[ae_,ao_,av!,bh!,bL_,b7!,cC_,o0!,fk_,some P!,none,none]) (iD (by simp[f2,Aa,fC,Bo,Ds,ZW]))]
section
variable{ρ:Ad}
def b3p{c:W_}{a b:aJ_}(h:c ρ=some true):Ge c a b ρ=a ρ:=by unfold Ge;rw[h];rfl
def gS{c:W_}{a:aJ_}(h:c ρ=some false):Ge c a Cj ρ=some ad_:=by unfold Ge;rw[h];rfl
def pL{i:Nat}{b:Bool}(h:Aa i ρ=some P!)(e:(k==s)=b):fT (f2 Bb (Aa i) (fC aS!)) ρ=some b:=by unfold fT f2 fC;rw[h];show(Bb P! aS!).bind _=_;rw[gB,e];rfl
def bL{f:e_}{fs:am!}(h:cs_)(g:hk!):Ac f fs ρ=some dP_:=by unfold Ac;rw[h,g];rfl
def nE{fs:am!}{ds:b!}(h:hk!)(hl:yv!):Bc (Au fs) ρ=some (.rt c7_):=by unfold Bc Au;rw[h];show Option.map _ yv_=_;rw[yw!];rfl
def iQ{g:ac_}{fs:am!}(h:hk!)(e:g ds=some d):f1 g fs ρ=some d:=by unfold f1;rw[h];exact e
def bS{g:aY_}{f1 f3:e_}(h:f1 ρ=some x)(k:f3 ρ=some y)(e:g x y=some d):f2 g f1 f3 ρ=some d:=by unfold f2;rw[h,k];exact e
def a3q{ns:r!}{base j m:Int}(h:Aa 0 ρ=some d0_)(g:Aa 1 ρ=some kl_)(e:Bn [b6_,.int (base+j)]=some cz_):f1 Bn (Ac q! (Ac (f2 An w! (fC b4_)) Ag)) ρ=some cz_:=
 iQ (bL h (bL (bS g rfl rfl) rfl)) e
def b6a{m:Int}{f h:e_}(a:f ρ=some Q_)(b:h ρ=some cz_)(e:Cz [.lst xs,dW!]=some p):f1 Cz (Ac f (Ac h Ag)) ρ=some p:=
 iQ (bL a (bL b rfl)) e
end
def uK{i j:Int}(h:0<j):Bo ak_ b4_=some (.int (i%j)):=by show(if decide (0<j)=true then _ else _)=_;rw[IB (IY h)]
def c4d(ns:r!){base most:Int}{ops:b!}(h:kg!)(hl:kh!)(US:1<=most)(ZX:most<=16):∃d,Jx yx_=some d/\DG d:=by
 obtain⟨m0,its,item,jd,k,p0,vo,oo,oq,uj,hk,hA⟩:=c9d ns (base:=base) (most:=most) h hl;have fin:∀d,DJ oZ!=some aP_->Jx yx_=some d:=λd e=>by
  unfold Jx By;rw[IB c5_];show(match Pe ys_ with|some (.rt d)=>some d|some (.nx _)=>some .non|none=>none)=_;rw[hA,e]
 clear hA;obtain⟨m1,e1,_,_⟩:=gR ns (k:=base+1);obtain⟨m3,e3,_,_⟩:=gR ns (k:=base+3);obtain⟨m4,e4,_,_⟩:=gR ns (k:=base+4);obtain⟨m5,e5,_,_⟩:=gR ns (k:=base+5);obtain⟨p1,qq,ZY⟩:=jW (n:=m1) vo;obtain⟨p3,ZZ,Z0⟩:=jW (n:=m3) vo;obtain⟨ss,es,yr,Z1⟩:=b4v h hl;obtain⟨sg,eg,mg⟩:=jW (n:=m4) yr;have UT:=Z1 _ mg;obtain⟨tx,et,Z2,Z3,Z4⟩:=c1a (n:=m5) US ZX;have uk:∀{k:Str},CI oZ!=some (.nx o1!):=
  iD (iQ (bL (iQ fl_ es) (bL (a3q rfl rfl e4) rfl)) eg)
 have UU:∀{k:Str},yz_=true->Yf o1!=some (.rt yA_):=λ{k} e=>
  (b3p (by unfold fT;rw[yB!,e];rfl)).trans (nE rfl rfl)
 have UV:DG yA_:=.set oq a! a! a!;obtain⟨nm,nn,Z5⟩:∃nm,NameG nm/\∀{k:Str},("put"==k)=false->sSeq dq14 dq15 [some (scr ns),some (.int base),some (.lst ops),some (.int most),some (.int m0),some (.lst its),some item,some jd,some (.lst kinds),some (.str k),some sg,none]=some (.rt (.tup [.str k,nm])):=by
  obtain⟨ys,e,l,hr⟩:=mD (ρ:=de!) (bnd:=Bf 0) (ft:=oX_) (fe:=Au gB_)
   (yg!) ops (by
    intro o ho;obtain⟨h',n,tm,d,rfl,b1,b2,b3,b4,_⟩:=h o ho;exact⟨_,true,rfl,rfl,λ_=>⟨_,rfl,yg_⟩⟩)
  have a1:An bb! (.lst o1_)=some (.lst (ys++o1_)):=by
   show(if ah!+1<=big then _ else none)=_;rw[df_]
  obtain⟨nm,en,mn⟩:=jW (n:=m1) (xs:=ys++o1_) b_;refine⟨nm,?_,λ{k} _=>(bD (iD (bS ?_ rfl a1))).trans (nE (bL rfl (bL (b6a rfl yB_ en) rfl)) rfl)⟩
  .obtain z|z:=II.mp mn
   .exact hr _ z
   .simp at z;subst z;exact⟨_,_,rfl,U_,U_,s_,s_⟩
  .show yh_;rw[df_,e];rfl
 have vp:∀{k:Str},("put"==k)=false->(k=="write")=false->(k=="cut")=false->yz_=false->(yr_) o1!=some (.rt (.tup [.str k,nm])):=λ{k} e0 w c s=>
  (bD (gS (pL rfl w))).trans ((bD (gS (by unfold Co;rw[pL rfl c];rfl))).trans ((bD (gS (by unfold fT;rw[yB!,s];rfl))).trans (Z5 e0)))
 unfold KindOk at hk;obtain rfl|rfl|rfl|rfl|rfl|rfl|rfl|rfl:=hk
 .exact⟨_,fin _ (mZ ((ko!).trans (nE (bL rfl (bL (b6a rfl yB_ qq) rfl)) rfl))),.put (oo _ ZY) uj⟩
 .exact⟨_,fin _ ((aB_).trans (mZ ((ko!).trans (nE (bL rfl (bL rfl (bL (b6a rfl (a3q rfl rfl e3) ZZ) rfl))) rfl)))),.move oq (oo _ Z0) uj⟩
 all_goals first|(refine⟨_,fin _ ((aB_).trans ((aB_).trans (mZ ((ko!).trans (nE rfl rfl))))),.drop oq⟩;done)|skip
 .exact⟨_,fin _ ((aB_).trans ((aB_).trans ((aB_).trans ((ko_).trans
   (mZ ((ko!).trans (nE (bL rfl (bL rfl (bL rfl (bL (iQ (bL (a3q rfl rfl e5) rfl) et) rfl)))) rfl))))))),.write oq UT Z2 Z3 Z4⟩
 .have go:DJ [ae_,ao_,av!,bh!,bL_,b7!,cC_,km!,fk_,some dH!,none,none]=sSeq AC yr! [ae_,ao_,av!,bh!,bL_,b7!,cC_,km!,fk_,some dH!,some sg,none]:=(aB_).trans ((aB_).trans ((aB_).trans ((ko_).trans aB_)));obtain rfl|⟨a,b,c,rfl,J,h2,h3,h4,c0,Z6⟩:=UT
  .exact⟨_,fin _ (go.trans ((bD (gS yC_)).trans (mZ (UU rfl)))),UV⟩
  .have hc:0<16 - c:=by omega
   have q1:0<=m0 / 12%(16 - c):=LB _ a!;have q2:m0 / 12%(16 - c)<16 - c:=KI _ hc;exact⟨_,fin _ (go.trans (mZ ((b3p yC_).trans (nE (bL rfl (bL rfl (bL rfl (bL (bS rfl (bS rfl rfl (uK hc)) rfl) rfl)))) rfl)))),.cut oq ⟨a,b,c,rfl,J,h2,h3,h4,c0,Z6⟩ a! a!⟩
 .exact⟨_,fin _ ((aB_).trans ((aB_).trans ((aB_).trans ((ko_).trans ((aB_).trans ((bD (gS (by unfold Co;rw[pL (b:=false) rfl j_];rfl))).trans (mZ (UU j_)))))))),UV⟩
 .exact⟨_,yF!,.undo nn⟩
 .exact⟨_,yF!,.redo nn⟩
def fD(h:Cb d):Dy d=true:=by obtain rfl|rfl|⟨a,b,rfl,_⟩:=h<;>simp[Dy,Ff]
def wZ(h:Md d):Dy d=true:=by obtain rfl|⟨a,b,rfl,_⟩:=h<;>simp[Dy,Ff]
def uI(h:NameG d):Dy d=true:=by obtain⟨a,b,rfl,_⟩:=h;simp[Dy,Ff]
def a6c(h:Ki d):Dy d=true:=by obtain rfl|⟨a,b,c,rfl,_⟩:=h<;>simp[Dy,Ff]
def a8k(h:DG d):Dy d=true:=by
 cases h with
 |put J h2=>simp[Dy,Ff,fD J,wZ h2]
 |move J h2 h3=>simp[Dy,Ff,fD J,fD h2,wZ h3]
 |drop J=>simp[Dy,Ff,fD J]
 |write J h2=>simp[Dy,Ff,fD J,a6c h2]
 |cut J=>simp[Dy,Ff,fD J]
 |set J=>simp[Dy,Ff,fD J]
 |undo J=>simp[Dy,Ff,uI J]
 |redo J=>simp[Dy,Ff,uI J]
abbrev Us:Ad->Option Fl:=(sSeq uV_
 (sSeq uW_
 (sSeq uX!
 (sSeq uX_
 (sSeq uY!
 uY_)))))
end K22
namespace K22
open PySem L2 DL
open Classical
inductive Sl(W:OW)(n:D):D->OW->Prop
 |put {a b:D} {aj:j!}:Cb a->Md b->Qt W.rows n fd_ b aj->Sl W n fg! e0!
 |mvY {a b c:D} {aj:j!}:Cb a->Cb b->Md c->yG!->Qt W.rows a b c aj->Sl W n hf! {W with rows:=aj}
 |mvN {a b c:D}:Cb a->Cb b->Md c->¬yG!->Sl W n hf! W
 |drY {a:D} {aj:j!}:Cb a->yG_->Qt W.rows a Db .non aj->Sl W n hf_ {W with rows:=aj}
 |drN {a:D}:Cb a->¬yG_->Sl W n hf_ W
 |wrt {a b:D} {s:Str} {h m:Int}:Cb a->Ki b->au_<=16->n=.tup b8!->Sl W n hg! (if a∈W.its then setT W a yH! else W)
 |cut {a:D} {x y z m:Int}:Cb a->0<=z->1<=m->z+m<=16->Sl W n (.tup [.str "cut",a,.tup [.int x,.int y,.int z],.int m]) (if a∈W.its then setT W a (cutT ((List.range m.toNat).map λk=>.tup j2!) av_)else W)
 |set {a:D} {p v:Int}:Cb a->0<=p->p<=3->Sl W n kr! (if a∈W.its then Wh W a o4! else W)
def cD(h:Cb x):∃k,Df x=some k:=by
 obtain rfl|rfl|⟨a,b,rfl,_⟩:=h
 .exact L_
 .exact L_
 .exact L_
def tL(h:Md x):∃k,Df x=some k:=by
 obtain rfl|⟨a,b,rfl,_⟩:=h
 .exact L_
 .exact L_
def b1x(h:Ki x):∃k,Df x=some k:=by
 obtain rfl|⟨a,b,c,rfl,_⟩:=h
 .exact L_
 .exact L_
structure Vt(W:OW)(pre:b!):Prop where
 inv:Ch W
 its:∀x∈W.its,x∈pre
 sgs:∀x∈W.its,∀q∈W.txt x,∃h n k,q.1=.tup yH_/\D.tup bK!∈pre
 chr:∀x∈W.its,∀q∈W.txt x,∃c:Nat,q.2.1=.str at!
section
variable{t:Ar}{M:Mh}{o:xz!}{O:Addr->Prop}{W W':OW}{B:Nat}{R:D->Mh->Prop}{pre:List D}
def nU{h n:Int}{s:Str}{q:e0_}(hq:q∈s.cps.toList.zipIdx.map dX!):∃c k:Nat,q=(.tup o5!,.str at!,true):=by obtain⟨⟨c,k⟩,_,rfl⟩:=IU.mp hq;exact⟨c,k,rfl⟩
def a9i(h n:Int):∀(cs:k!) (k0:Nat),(((yI_).map c_)).Nodup/\∀k:Nat,k<k0->D.tup o5!∉(yI_).map c_
 |[],k0=>by simp
 |c::cs,k0=>by
  obtain⟨J,h2⟩:=a9i h n cs (k0+1);refine⟨IQ.mpr ⟨h2 k0 a!,J⟩,λk hk z=>?_⟩;obtain z|z:=HV.mp z
  .simp[sgn]at z;omega
  .exact h2 k a! z
def b4s{h m:Int}(hs:Sl W ks! d W')(w:Vt W pre)(hn:yK!):Vt W' yL!:=by
 have keep:∀{V:OW},V.its=W.its->V.txt=W.txt->Ch V->Vt V yL!:=λ{V} e1 e2 wi=>by
  refine⟨wi,aB!,ks_,ks_⟩
  .rw[e1]at hx;exact IT _ (w.its x hx)
  .rw[e1]at hx;rw[e2]at hq;obtain⟨a,b,c,e,hm⟩:=w.sgs x hx q hq;exact⟨a,b,c,e,IT _ hm⟩
  .rw[e1]at hx;rw[e2]at hq;exact w.chr x hx q hq
 cases hs with
 |put y1 y2 hg=>
  rename_i a b aj;have ni:D.tup b8!∉W.its:=λz=>hn (w.its _ z);have hp:Ig W fd_:=by split;assumption;exact .inr gv!
  have im:∀x,x∈(Jh W ks! aj).its↔x∈W.its\/x=.tup b8!:=λx=>by simp[Jh]
  have tx:∀x,(Jh W ks! aj).txt x=if x=.tup b8! then[]else W.txt x:=λx=>rfl
  refine⟨hg.winv_put w.inv ni ⟨_,_,rfl⟩ hp,aB!,ks_,ks_⟩
  .obtain z|rfl:=(im x).mp hx
   .exact IT _ (w.its x z)
   .simp
  .rw[tx]at hq;by_cases e:x=.tup b8!
   .rw[IB e]at hq;cases hq
   .rw[IF e]at hq;obtain⟨a,b,c,e',hm⟩:=w.sgs x yM! q hq;exact⟨a,b,c,e',IT _ hm⟩
  .rw[tx]at hq;by_cases e:x=.tup b8!
   .rw[IB e]at hq;cases hq
   .rw[IF e]at hq;exact w.chr x yM! q hq
 |mvY _ _ _ hc hg=>exact keep rfl rfl yL_
 |mvN _ _ _ hc=>exact keep rfl rfl w.inv
 |drY _ hc hg=>exact keep rfl rfl yL_
 |drN _ hc=>exact keep rfl rfl w.inv
 |wrt y1 y2 y3 e=>
  rename_i a b s h' m';cases e;by_cases c:a∈W.its
  .rw[IB c];obtain⟨U,v,e1,e2,e3⟩:=pT b hk_ av_;have mem:∀q,q∈wrT b hk_ av_↔q∈W.txt a\/q∈s.cps.toList.zipIdx.map kq_:=λq=>by
    rw[e2,e1];simp only[II];constructor<;>(intro z;rcases z with(z|z)|z<;>simp[z])
   have fresh:∀x∈W.its,∀q∈W.txt x,∀k:Int,q.1≠.tup [aR_,dW!,hd_]:=λx hx q hq k z=>by
    show"!T";rw[e']at z;cases z;exact hn hm
   have tx:∀x,(yM_).txt x=if x=a then wrT b hk_ av_ else W.txt x:=λx=>rfl
   have all:∀(P:e8!),(∀x∈W.its,∀q∈W.txt x,P q)->(∀q∈s.cps.toList.zipIdx.map kq_,P q)->∀x∈W.its,∀q∈(yM_).txt x,P q:=λP J h2 x hx q hq=>by
    rw[tx]at hq;by_cases e:x=a
    .rw[IB e]at hq;obtain z|z:=(mem q).mp hq
     .exact J a c q z
     .exact h2 q z
    .rw[IF e]at hq;exact J x hx q hq
   refine⟨pV w.inv c ?_ dV! on!,λx hx=>IT _ (w.its x hx),all _ (λx hx q hq=>?_) dV!,all _ w.chr dV!⟩
   .rw[e2];have nd:=w.inv.snd a c;rw[e1]at nd;obtain⟨n1,_⟩:=a9i h m s.cps.toList 0;have dj:∀q∈W.txt a,∀q'∈s.cps.toList.zipIdx.map kq_,q.1≠q'.1:=λq hq q' be=>by
     obtain⟨c',k',rfl⟩:=nU be;exact fresh a c q hq _
    simp only[IZ]at nd ⊢;rw[JL]at nd;rw[JL,JL];refine⟨⟨nd.1,n1,jJ_⟩,nd.2.1,jJ_⟩
    .obtain⟨q,hq,rfl⟩:=IU.mp hx;obtain⟨q',be,rfl⟩:=IU.mp hy;exact dj q (by rw[e1];exact IT _ hq) q' be
    .obtain hx|hx:=II.mp hx
     .exact nd.2.2 x hx y hy
     .obtain⟨q',be,rfl⟩:=IU.mp hx;obtain⟨q,hq,rfl⟩:=IU.mp hy;exact JE (dj q (by rw[e1];exact HZ _ hq) q' be)
   .obtain z|z:=(mem q).mp hq
    .exact w.inv.sg a c q z
    .obtain⟨c',k',rfl⟩:=nU z;exact xe!
   .obtain z|z:=(mem q).mp hq
    .exact(w.inv.su a c y hy q z q' be e).symm
    .obtain⟨c',k',rfl⟩:=nU z;exact absurd e.symm (fresh y hy q' be _)
   .show"!T";exact o6_
   .obtain⟨c',k',rfl⟩:=nU hq;exact⟨_,_,_,rfl,Q!⟩
   .obtain⟨c',k',rfl⟩:=nU hq;exact L_
  .show"!x"
 |cut y1 y2 y3 y4=>
  rename_i a x y z m';by_cases c:a∈W.its
  .rw[IB c];have tx:∀v,(setT W a (cutT yP! av_)).txt v=if v=a then cutT yP! av_ else W.txt v:=λx=>rfl
   refine⟨b3z w.inv c _,λv hv=>IT _ (w.its v hv),yQ_,yQ_⟩
   .rw[tx]at hq;split at hq
    .show"!U";obtain⟨a',b',c',e',hm⟩:=w.sgs a c q0 h0;exact o6_
    .obtain⟨a',b',c',e',hm⟩:=w.sgs v hv q hq;exact o6_
   .rw[tx]at hq;split at hq
    .show"!U";exact w.chr a c q0 h0
    .exact w.chr v hv q hq
  .show"!x"
 |set y1 y2 y3=>
  rename_i a p v;by_cases c:a∈W.its
  .rw[IB c];exact keep rfl rfl (b1z w.inv (by rw[MM];exact w.inv.nl a c))
  .show"!x"
end
def b8h:(Str.ofString "put"==Str.ofString "put")=true:=by decide+kernel
def a0x:(Str.ofString "move"==Str.ofString "move")=true:=by decide+kernel
def a0y:(Str.ofString "drop"==Str.ofString "drop")=true:=by decide+kernel
def a3z:(Str.ofString "write"==Str.ofString "write")=true:=by decide+kernel
def b8i:(Str.ofString "cut"==Str.ofString "cut")=true:=by decide+kernel
def b8g:(Str.ofString "set"==Str.ofString "set")=true:=by decide+kernel
section
variable{t:Ar}{M:Mh}{o:xz!}{O:Addr->Prop}{W W':OW}{B:Nat}{R:D->Mh->Prop}{pre:List D}
def ifT{ft:W_}{q1 q2:WS}{ρ:Ad}{R:p_}(h:yR_)(k:q1 ρ M R):As (Dd ft) q1 q2 ρ M R:=by simp only[As,Dd,h];exact k
def iS{ft:W_}{q1 q2:WS}{ρ:Ad}{R:p_}(h:yS!)(k:hn_):As (Dd ft) q1 q2 ρ M R:=by simp only[As,Dd,h];exact k
def bA:(fT (f2 Bb bq! (fC o7_))) [X_,cB!,some cD!]=some kv!:=by
 have e:Aj cD! F_=some P!:=by
  show o8!;show"#3";simp
 simp[fT,f2,Aa,fC,e,gB]
def ix1:Aj o8_ a9!=some a:=by show Cs (D.str k::a::r) 1=_;unfold Cs Du;rw[ap_,o9!];simp
def ix2:Aj o9_ bB!=some b:=by show Cs (D.str k::a::b::r) 2=_;unfold Cs Du;rw[ap_,o9!];simp
def ix3:Aj pa! bo!=some c:=by show Cs (D.str k::a::b::c::r) 3=_;unfold Cs Du;rw[ap_,o9!];simp
def ax1:f2 Aj C_ w_ [X_,cB!,some o8_]=some a:=ix1
def ax2:f2 Aj C_ aM_ [X_,cB!,some o9_]=some b:=ix2
def ax3:f2 Aj C_ az_ [X_,cB!,some pa!]=some c:=ix3
def av0:Aa 0 [X_,cB!,fp!]=some ai_:=rfl
def av1:Aa 1 [X_,cB!,fp!]=some n:=rfl
def gK{f:WE}{ρ:Ad}{R:p_}(k:f ρ M λ_ M1=>R ad_ M1):Bq f ρ M R:=k
def uM{g:WF}{fo f1 f2 f3:e_}{ρ:Ad}(h0:fo ρ=some d)(J:dY_)(h2:fb_)(h3:kv_)(ho:kR!)(k:g [d,a,b,c] M R):Bd C m 4 g cA! pa_ ρ M R:=by simp only[Bd,wl,Ab,Af,h0,J,h2,h3];exact oz_
def d1j{g:WF}{fo f1 f2 f3 f4:e_}{ρ:Ad}(h0:fo ρ=some d)(J:dY_)(h2:fb_)(h3:kv_)(h4:f4 ρ=some e)(ho:kR!)(k:g [d,a,b,c,e] M R):Bd C m 5 g cA! pb! ρ M R:=by simp only[Bd,wl,Ab,Af,h0,J,h2,h3,h4];exact oz_
def c1x{h m:Int}(hO:aQ_)(w:Vt W pre)(hn:yK!)(hs:Sl W ks! d W')(hB:g6!)
  (hR:∀M' O',Bt t M' o O' W' bt!->Fr M O M' O'->R .non M'):Mv t [aK!,.tup b8!,d] M R:=by
 have fresh:∀x∈W.its,∀k':Nat,D.tup [aR_,dW!,.int (k':Nat)]∉(da!).map c_:=λx hx k' z=>by
  show"#@";show"!T";rw[e']at e;cases e;exact hn hm
 refine n!;cases hs with
 |put ha hb hg=>
  show"!2";obtain⟨kb,kg⟩:=tL hb;refine ifT (bA.trans (congrArg some b8h)) ?_;exact gK (uM av0 av1 ax1 ax2 di_ (c6n hO w.inv (λz=>hn (w.its _ z)) ⟨_,_,rfl⟩ bp kg hB hg hR))
 |mvY ha hb b7 hc hg=>
  show"!J";exact gK (uM av0 ax1 ax2 ax3 di_ (sJ hO w.inv bp kg yt hB λM' f1 _ fr=>hR M' O (f1 hc _ hg) fr))
 |mvN ha hb b7 hc=>
  show"!J";exact gK (uM av0 ax1 ax2 ax3 di_ (sJ hO w.inv bp kg yt hB λM' _ f1 fr=>hR M' O (f1 hc) fr))
 |drY ha hc hg=>
  show"!w";exact gK (uM av0 ax1 rfl rfl di_ (sJ hO w.inv bp (kx:=pc!) rfl (ks:=none) rfl hB λM' f1 _ fr=>hR M' O (f1 hc _ hg) fr))
 |drN ha hc=>
  show"!w";exact gK (uM av0 ax1 rfl rfl di_ (sJ hO w.inv bp (kx:=pc!) rfl (ks:=none) rfl hB λM' _ f1 fr=>hR M' O (f1 hc) fr))
 |wrt ha hb df e=>
  cases e;show"!2";obtain⟨kb,kg⟩:=b1x hb;show"!/";refine ifT (bA.trans (congrArg some a3z)) ?_;exact gK (d1j av0 av1 ax1 ax2 ax3 di_ (b4i hO w.inv bp kg hB df fresh λM' f1 _ fr=>hR M' O f1 fr))
 |cut ha b5 J h2=>
  show"!2";show"!/";refine iS E_ ?_;refine ifT (bA.trans (congrArg some b8i)) ?_;exact gK (uM av0 ax1 ax2 ax3 di_ (c9k hO w.inv bp hB b5 J h2 λM' f1 fr=>hR M' O f1 fr))
 |set ha J h2=>
  show"!2";show"!/";refine iS E_ ?_;refine iS E_ ?_;refine ifT (bA.trans (congrArg some b8g)) ?_;exact gK (uM av0 ax1 ax2 ax3 di_ (vV hO w.inv bp J h2 λM' f1 fr=>hR M' O (f1.mono a!) fr))
def c1y{k:Str}(hk:yX!)(hR:R .non M):Mv t [aK!,n,.tup pc_] M R:=by
 refine n!;obtain rfl|rfl:=hk
 .show"!/";show"!/";exact hR
 .show"!/";show"!/";exact hR
end
section
variable{t:Ar}{M:Mh}{o:xz!}{rl:Addr->Nz}{W W':OW}{B:Nat}{R:D->Mh->Prop}{pre:List D}
def dI{bnd:ad!}{ck:cF_}{ft:WT}{fe:WE}{ρ:Ad}(b:D->Bool)(y:D->D)(g9:ck M):∀(ds:b!) (R:o4_),
  (∀d∈ds,∃am,bnd d ρ=some am/\(∀K:Bool->Mh->Prop,K (b d) M->ft am M K)/\(b d=true->∀K:D->Mh->Prop,K (y d) M->fe am M K))->R ((ds.filter b).map y) M->Qn bnd ck ft fe ρ ds M R
 |[],R,_,hR=>⟨g9,hR⟩
 |d::ds,R,h,hR=>by
  obtain⟨am,e1,e2,e3⟩:=h d HX;refine⟨g9,?_⟩;rw[e1];refine e2 _ ?_;cases hb:b d with
  |true=>
   refine e3 hb _ (dI b y g9 ds _ yX_ ?_);rw[KD hb]at hR;exact hR
  |false=>
   refine dI b y g9 ds _ yX_ ?_;rw[KF (by simp[hb])]at hR;exact hR
end
structure Op where
 h:Int
 n:Int
 tm:Int
 d:D
nonrec def Op.v(o:Op):D:=.tup kz!
nonrec def Op.nm(o:Op):D:=.tup [hp_,.int o.n]
nonrec def Op.key(o:Op):Int×Int:=(o.tm,o.h)
def Fe:D->Option b5!
 |.tup [.str k,a]=>if pd! then some (k,a)else none
 |_=>none
def wU(k:Str)(a:D):Fe (.tup pc_)=if pd! then some (k,a)else none:=rfl
def sS(h:DG d):(∃k a,d=.tup pc_/\yY_/\NameG a/\Fe d=some (k,a))\/(∃k r,d=.tup de_/\hq!=false/\(k=="redo")=false/\Fe d=none):=by
 have uu:pd_=true:=by decide+kernel
 have rr:pe!=true:=by decide+kernel
 cases h with
 |put J h2=>exact .inr hq_
 |move J h2 h3=>exact .inr hq_
 |drop J=>
  refine .inr ⟨_,_,rfl,j_,j_,?_⟩;rfl
 |write J h2 h3 h4 h5=>exact .inr hq_
 |cut J h2 h3 h4=>exact .inr hq_
 |set J h2 h3 h4=>exact .inr hq_
 |undo J=>
  refine .inl ⟨_,_,rfl,cM_,J,?_⟩;rfl
 |redo J=>
  refine .inl ⟨_,_,rfl,.inr rfl,J,?_⟩;rfl
def a0z(o:Op):Ct [o.v]=some yZ_:=by simp[Ct,Kf,Op.v,By,Bc,Au,Ac,Ag,f2,Aa,fC,Aj,Cs,Du]
def uY:∀ops:List Op,Mu Ct cE_=some pe_
 |[]=>rfl
 |o::r=>by
  rw[IE];unfold Mu;rw[a0z,uY r];rfl
def d1p(o:Op):Hx Ct o.v=o.key:=by unfold Hx;rw[a0z];rfl
def a4l{α β:Type}{f:k4_}{k:α->Int×Int}{k':β->Int×Int}(h:y0_)(x:α):∀l:List α,Ql k' (f x) fB_=(Ql k x l).map f
 |[]=>rfl
 |y::r=>by
  simp only[IE,Ql,h];split
  .rfl
  .rw[a4l h x r];rfl
def tJ{α β:Type}{f:k4_}{k:α->Int×Int}{k':β->Int×Int}(h:y0_):∀l:List α,Iu k' fB_=(Iu k l).map f
 |[]=>rfl
 |x::r=>by rw[IE];unfold Iu;rw[tJ h r,a4l h]
abbrev Ey(ops:h!):List Op:=Iu Op.key ops
def lX{ops:h!}(nd:d3!)(hl:d3_):Dg b9_=some (.lst hr!):=by
 have e:Zm Ct cE_=some hr!:=by
  unfold Zm;rw[uY];show(if(pe_).Nodup/\(cE_).length<64 then some _ else none)=_;rw[IB ⟨nd,kn!⟩,tJ d1p]
 simp[Dg,Qc,By,Bc,Uj,Aa,e]
def rF{a b:h!}(h:a.Perm b)(nd:y2!):Ey a=Ey b:=
 kX k5_ (gC ((h.map _).nodup_iff.mp nd)) ((bV a).trans (h.trans (bV b).symm))
def b4u{a:h!}(nd:y2!):Ey (Ey a)=Ey a:=rF (bV a) (((bV a).map _).nodup_iff.mpr nd)
def c4w{o:Op}(h:DG o.d):At [o.v]=some pf_:=by
 have e3:Aj o.v bo!=some o.d:=by
  simp[Op.v,Aj,Cs,Du]
 have main:∀(k:Str) (r:b!),o.d=.tup de_->At [o.v]=some (.bl pd!):=λk r e=>by
  have e0:Aj cD! F_=some P!:=by
   show o8!;show"#3";simp
  have e1:∀s:Str,f2 Bb i3! (fC aS!) [K!]=some (.bl (k==s)):=λs=>by
   show(pg!).bind y3!=_;rw[e3,e];show((Aj cD! F_)).bind y3!=_;rw[e0];exact gB k s
  show(match Bc (Ep _ _) [K!]with|some (.rt d)=>some d|some (.nx _)=>some .non|none=>none)=_;unfold Bc Ep fT;rw[e1,e1];cases (k==Str.ofString "undo")<;>rfl
 obtain⟨k,a,e,hk,_,hu⟩|⟨k,r,e,J,h2,hu⟩:=sS h
 .rw[main k [a] e,hu];obtain rfl|rfl:=hk
  .rw[y4!];rfl
  .rw[y4_,(show(Str.ofString "redo"==Str.ofString "undo")=false by decide+kernel)];rfl
 .rw[main k r e,hu,J,h2];rfl
def Jb(f:Str->D):List Op->List ap!->List ap!
 |[],acc=>acc
 |o::os,acc=>match Fe o.d with
  |some (k,a)=>Jb f os (Bg acc a (f k))
  |none=>Jb f os acc
def sX:∀(os:h!) (A B:j!),(∀x,(kget A x=none/\kget B x=none)\/∃k:Str,kget A x=some P!/\kget B x=some fq!)->
  ∀x,(kget y5! x=none/\kget (Jb kA_ os B) x=none)\/∃k:Str,kget y5! x=some P!/\kget (Jb kA_ os B) x=some fq!
 |[],A,B,h=>h
 |o::os,A,B,h=>by
  unfold Jb;cases e:Fe o.d with
  |none=>exact sX os A B h
  |some q=>
   obtain⟨k,a⟩:=q;refine sX os _ _ λx=>?_;by_cases c:a=x
   .subst c;rw[iU,iU];exact .inr ⟨k,rfl,rfl⟩
   .rw[mW c,mW c];exact h x
section
variable{t:Ar}{M:Mh}{R:D->Mh->Prop}
def iI{h1:j!}{ep:Nat}(h:bt_)(hk:bM!)(hl:cE!):Jv M z! y v=some fs_:=by simp[Jv,h,hk,hl]
def xO(h:NameG x):∃k,Df x=some k:=by obtain⟨a,b,rfl,_⟩:=h;exact L_
def d2f:Aa 1 pg_=some z!:=rfl
def a0h:∀(os:h!) (x1:D) (y:am_) (acc:j!) (ep:Nat) (M:Mh) (R:p_),ph!->cF!+aT!<1000->M p=some ph_->
  (∀M' bg y',M' p=some (.dct y5_ bg)->kB!->R y6! M')->
  Ih bD! aj! tG_ aw_ pg_ M R
 |[],x1,y,acc,ep,M,R,_,_,hp,hR=>y6_
 |o::os,x1,y,acc,ep,M,R,hd,hl,hp,hR=>by
  refine bg!;show As (Dd _) _ _ bN_ M _;have ho:=hd o HX;have et:fT (f1 At bD_) bN_=some (Fe o.d).isSome:=by
   have e:f1 At bD_ bN_=some pf_:=c4w ho;unfold fT;rw[e];rfl
  simp only[IH]at hl;have e3:Aj o.v bo!=some o.d:=by simp[Op.v,Aj,Cs,Du]
  obtain⟨k,a,e,hk,fq,hu⟩|⟨k,r,e,J,h2,hu⟩:=sS ho
  .rw[hu]at et;refine ifT et ?_;obtain⟨ka,j5⟩:=xO fq;have i0:f2 Aj bp_ G! bN_=some P!:=by
    show pg!=_;rw[e3,e];show Cs [D.str k,a] 0=_;simp[Cs,Du]
   have i1:f2 Aj bp_ w_ bN_=some a:=by
    show y7!;rw[e3,e];show Cs [D.str k,a] 1=_;simp[Cs,Du]
   have ou:Jv M z! a P!=some y8!:=by
    exact iI hp j5 bs_
   have:=a0h (p:=p) os x1 d4! (Bg acc a P!) (Hc acc a ep) y8! R hr_ (by have:=kput_len acc a P!;omega) mup_same (λM' bg y' J h2=>hR M' bg y' y8_ λb hb=>(pj!).trans pj_);simp only[Bx,wl,i0,i1,d2f,ou,Fc];exact this
  .rw[hu]at et;refine iS et ?_;exact a0h (p:=p) os x1 d4! acc ep M R hr_ a! hp y9!
def a1h{f:e_}{ρ:Ad}(h:f ρ=some cq!):Ei f ρ=some ds:=by unfold Ei;rw[h];rfl
def wG{ops:h!}(nd:d3!)(hl:d3_)(hd:hs!)
  (hR:∀p M' ep,M p=none->M' p=some (.dct hs_ ep)->kB!->R z! M'):Gi b9_ M R:=by
 refine n!;intro p hp;have hi:Ei i4! pk!=some hr!:=a1h (lX nd hl);have bx:(aS_).Perm ops:=bV ops;have:=a0h (p:=p) aS_ ht! none [] 0 d6! (λr M1=>match r with|.nx am=>Bj t_ am M1 gZ_|.rt d=>R d M1) y9_ za! mup_same za_;show Ah (Ec (Ja _) _ _) _ pk! _ _;simp only[Ah,Ec,Ja,hi,Fc];exact this
def t2{g:aY_}{fa:WE}{fb:e_}{ρ:Ad}{K:d2!}{b:Bool}(ha:∀K':D->Mh->Prop,K' d M->fa ρ M K')(hb:fb ρ=some v)(hg:g d v=some bl!)(k:K b M):wT (w2 (λ_=>g) fa kD!) ρ M K:=by refine ha _ ?_;simp only[wl,hb,hg];exact k
def Undn(wd:j!)(o:Op):Prop:=Fe o.d=none/\kget wd o.nm=some bC_
def a9g(o:Op):Be o.v none (some 2)=some o.nm:=by simp[Op.v,Op.nm,Be,Dh,HT.sIx]
def a7l(o:Op):∃k,Df o.nm=some k:=L_
def a9c{e0:Nat}(q9:p≠q):∀(os:h!) (x1:D) (y z:am_) (acc:j!) (ep:Nat) (M:Mh) (R:p_),ph!->cF!+aT!<1000->M p=some (.dct wd e0)->M q=some ph_->(∀x v,kget wd x=some v->∃k:Str,v=.str k)->
  (∀M' bg y' z' dr,M' q=some (.dct dr bg)->(∀x,kget dr x≠none↔(kget acc x≠none\/∃o∈os,o.nm=x/\Undn wd o))->zb_->R (.nx [Z!,af!,bi_,y',z']) M')->
  Ih al_ aj! i6_ aw_ [Z!,af!,bi_,y,z] M R
 |[],x1,y,z,acc,ep,M,R,_,_,hp,hq,kh,hR=>⟨trivial,hR M ep y z acc hq zc! λb _=>rfl⟩
 |o::os,x1,y,z,acc,ep,M,R,hd,hl,hp,hq,kh,hR=>by
  refine bg!;show Ah (Am 4 _) _ zc_ M _;have ho:=hd o HX;simp only[IH]at hl;have es:Fd D_ Aw cY_ zc_=some o.nm:=a9g o;simp only[Ah,Am,wl,es];show As _ _ _ dj! M _;have et:Cr vj! dj!=some (!(Fe o.d).isSome):=by
   have e:f1 At dL! dj!=some pf_:=c4w ho;unfold Cr fT;rw[e];rfl
  obtain⟨kn,fw⟩:=a7l o;have next:∀(c:Prop),(c↔Undn wd o)->∀dr bg M',M' q=some (.dct dr bg)->(∀x,kget dr x≠none↔(kget acc x≠none\/(x=o.nm/\c)))->dr.length<=cF!+1->zb_->
    Ih al_ aj! i6_ aw_ dj! M' R:=λc hc dr bg M' J h2 h3 h4=>by
   refine a9c (p:=p) (q:=q) (wd:=wd) (e0:=e0) q9 os x1 _ _ dr bg M' R hr_ a! ((h4 p q9).trans hp) J kh λM2 lu y2 z2 Z7 g1 g2 g3=>hR M2 lu y2 z2 Z7 g1 pk_ λb hb=>(g3 b hb).trans (h4 b hb);rw[g2,h2];show"#1"
   .rintro((u|⟨u1,u2⟩)|⟨o',u1,u2,u3⟩)
    .exact .inl u
    .exact .inr ⟨o,HX,u1.symm,hc.mp u2⟩
    .exact .inr ⟨o',HS _ u1,u2,u3⟩
   .rintro(u|⟨o',u1,u2,u3⟩)
    .exact .inl (.inl u)
    .obtain rfl|u1:=HV.mp u1
     .exact .inl (.inr ⟨u2.symm,hc.mpr u3⟩)
     .exact .inr ⟨o',u1,u2,u3⟩
  have no:(¬Undn wd o)->Ih al_ aj! i6_ aw_ dj! M R:=λh=>next False (by simp[h]) acc ep M hq zc! a! λb _=>rfl;cases hu:Fe o.d with
  |some u=>
   rw[hu]at et;simp only[As,Fp,Dd,et];exact no λz=>by rw[z.1]at hu;cases hu
  |none=>
   rw[hu]at et;simp only[As,Fp,Dd,et];have hg:∀(K:r_),K zd! M->Ob t_ aN_ dj! M K:=λK hK=>by
    have c1:Ea M z!=some (p,wd,e0):=by simp[Ea,hp]
    show Fc (Ea M z!) λ_=>Fc (Ea M z!) λq=>Fc (Df o.nm) λ_=>K ((kget q.2.1 o.nm).getD .non) M;rw[c1,fw];exact hK
   have Z8:Sd zd!:=by
    cases e:kget wd o.nm with
    |none=>exact .inl rfl
    |some v=>obtain⟨k,rfl⟩:=kh _ _ e;exact iE k
   have UW:(pl_).getD .non=.str "undo"↔Undn wd o:=by
    unfold Undn;rw[hu];cases e:kget wd o.nm with
    |none=>simp
    |some v=>simp
   refine t2 hg (v:=oS_) rfl (sR Z8 (iE _)) ?_;by_cases c:(pl_).getD .non=.str "undo"
   .rw[IY c];have ou:=iI (y:=o.nm) (v:=eo!) hq fw bs_;have f2:Aa 2 dj!=some bO!:=rfl;have f4:Aa 4 dj!=some o.nm:=rfl;simp only[Bx,wl,fC,f2,f4,ou,Fc];refine next True (by simp[<-UW,c]) _ _ _ mup_same pk_ gT_ λb hb=>mup_ne hb;by_cases e:o.nm=x
    .subst e;rw[iU];simp
    .rw[mW e];simp[JE e]
   .rw[IG c];exact no λz=>c (UW.mpr z)
def yW:∀(os:h!) (acc:j!),(∀x v,kget acc x=some v->∃k:Str,v=.str k)->∀x v,kget y5_ x=some v->∃k:Str,v=.str k
 |[],acc,h=>h
 |o::os,acc,h=>by
  unfold Jb;cases e:Fe o.d with
  |none=>exact yW os acc h
  |some q=>
   obtain⟨k,a⟩:=q;refine yW os _ λx v hx=>?_;by_cases c:a=x
   .subst c;rw[iU]at hx;cases hx;exact⟨k,rfl⟩
   .rw[mW c]at hx;exact h x v hx
def b1s{ops:h!}(nd:d3!)(hl:d3_)(hd:hs!)
  (hR:∀q M' ep kq,M q=none->M' q=some (.dct kq ep)->(∀x,kget kq x≠none↔∃o∈ops,o.nm=x/\Undn hs_ o)->kE_->R bO! M'):Ll b9_ M R:=by
 refine n!;have hc:∀(K:r_),Gi b9_ M K->Ao 1 Gi aX_ ze_ M K:=λK h=>cv_;refine hc _ (wG nd hl hd λp M1 ep hp hM1 fr=>?_);intro q hq;have q9:p≠q:=λz=>by rw[<-z,hM1]at hq;cases hq
 have ow:M q=none:=by rw[<-fr q (JE q9)];exact hq
 have hi:Ei q! [d4_,af!,bi_,none,none]=some cE_:=rfl;refine a9c (wd:=pm!) (e0:=ep) q9 ops ht! none none [] 0 _ _ hd a4! ((mup_ne q9).trans hM1) mup_same (yW _ [] λx v h=>by simp[kget]at h) λM' bg y' z' dr J h2 h3=>?_;refine hR q M' bg dr ow J pk_ λb hb=>?_
 .rw[h2];simp[kget]
 .have b1:b≠q:=λz=>hb (by rw[z];exact ow);have b2:b≠p:=λz=>hb (by rw[z];exact hp);rw[h3 b b1,mup_ne b1,fr b b2]
end
def W0:OW:=⟨[],[],λ_=>[],λ_=>[]⟩
def c5x:Vt W0 []:=by refine⟨⟨by simp[W0],dk!,by simp[W0],λx=>by simp[W0],zf_,⟨λ_=>0,zf_⟩,dk!,dk!,dk!,dk!⟩,dk!,dk!,dk!⟩
section
variable{t:Ar}{M:Mh}{R:D->Mh->Prop}
section
variable{ρ:Ad}
def cF{f:e_}(h:cs_)(K:r_):wl f ρ M K=K d M:=by simp only[wl,h]
def DM(C:xz!)(x:Str)(fo:e_)(ρ:Ad)(y:D)(M:Mh)(Q:cF_):Prop:=wl fo ρ M λd M2=>match d with
 |.fn p=>(match M2 p with|some (.obj C' fs)=>C'=C/\bj_<100/\Q zE_|_=>False)
 |_=>False
def nV{fo:e_}{f:WE}{R:p_}(h:f ρ M λy M1=>DM C x fo ρ y M1 λM2=>R ad_ M2):Ga C x cA! f ρ M R:=h
def kY{fo:e_}{f:WE}{q:WS}{R:p_}(h:f ρ M λy M1=>DM C x fo ρ y M1 λM2=>q ρ M2 R):Ah (Ga C x cA! f) q ρ M R:=h
def gA{fs fs':aK_}{fo:e_}{Q:cF_}(h0:kF_)(hM:M p=some oy_)(hl:bj_<100)(hf:Hw x y fs=fs')(k:Q (mup M p (.obj C fs'))):DM C x fo ρ y M Q:=by unfold DM;rw[cF h0];show(match M p with|some (.obj C' fs)=>C'=C/\bj_<100/\Q (mup M p zE!)|_=>False);rw[hM];subst hf;exact⟨rfl,hl,k⟩
end
def pc{fa:e_}{fb:WE}{fp:WP}{ρ:Ad}{R:zm!}(h:fa ρ=some x)(k:fb ρ M λy M2=>fp ρ M2 λh1 M3=>R ((x,y)::h1) M3):Eb hu! fb fp ρ M R:=by simp only[Eb,wl,h];exact k
def a7m{α β:Type}{f:k4_}:∀{l:O!},(fB_).Nodup->∀{x y:α},x∈l->y∈l->f x=f y->x=y
 |[],_,_,_,h,_,_=>by cases h
 |a::l,nd,x,y,hx,hy,e=>by
  rw[IE,IQ]at nd;obtain J|J:=HV.mp hx<;>obtain h2|h2:=HV.mp hy
  .rw[J,h2]
  .exact absurd (by rw[<-J,e];exact IM h2) nd.1
  .exact absurd (by rw[<-h2,<-e];exact IM J) nd.1
  .exact a7m nd.2 J h2 e
structure HL(M0 M:Mh)(l:kG!):Prop where
 cell:∀q∈l,M q.1=some q.2
 nd:(d1_).Nodup
 fr:∀q∈l,M0 q.1=none
 kp:∀b,M0 b≠none->M b=M0 b
variable{M0:Mh}{l u v:List (Addr×Cw)}{b:xz!}{c c0:Cw}
def HL.new(h:pn_)(hb:M b=none):HL M0 po! ((b,c)::l):=by
 have h0:M0 b=none:=QF λz=>z ((h.kp b z).symm.trans hb);refine⟨d5_,IQ.mpr ⟨dh_,h.nd⟩,d5_,λa ha=>(mup_ne (dP ha h0)).trans (h.kp a ha)⟩
 .obtain rfl|hq:=HV.mp hq
  .exact mup_same
  .exact(mup_ne (dP (by rw[h.cell q hq];simp) hb)).trans (h.cell q hq)
 .show"#@";have:=h.cell q hq;rw[e,hb]at this;cases this
 .obtain rfl|hq:=HV.mp hq
  .exact h0
  .exact h.fr q hq
def HL.put(h:HL M0 M (u++(b,c0)::v)):HL M0 po! (u++(b,c)::v):=by
 have nd:=h.nd;rw[IZ,IE]at nd;have p:(u.map c_++b::v.map c_).Perm (b::(u.map c_++v.map c_)):=OM;have nb:=(IQ.mp (p.nodup_iff.mp nd)).1;have ob:∀q,q∈u++v->mup M b c q.1=M q.1:=λq hq=>mup_ne λz=>nb (by rw[<-z,<-IZ];exact IM hq);have be:∀{c q},q∈u++(b,c)::v->q=(b,c)\/q∈u++v:=λ{c q} hq=>by simpa[or_left_comm]using hq
 have l8:∀q,q∈u++v->q∈u++(b,c0)::v:=λq hq=>II.mpr ((II.mp hq).imp_right (HS _));have vj:=h.fr (b,c0) b_;refine⟨d5_,by rw[IZ,IE];exact nd,d5_,λa ha=>(mup_ne (dP ha vj)).trans (h.kp a ha)⟩
 .obtain rfl|z:=be hq
  .exact mup_same
  .exact(ob q z).trans (h.cell q (l8 q z))
 .obtain rfl|z:=be hq
  .exact vj
  .exact h.fr q (l8 q z)
def HL.row{M':Mh}(h:pn_)(z1:M r=none)(z2:M f=none)(z3:M p=none)(n1:r≠f)(n2:r≠p)(hr:Kj t M' r f p [])(fr:∀b,b≠r->b≠f->b≠p->M' b=M b):∃kf ef kp ep,Ib [] kf/\Ib [] kp/\HL M0 M' zl!:=by
 obtain⟨kf,ef,kp,ep,hf,hp,K,Kp⟩:=hr.dc;have h3:HL M0 _ zl!:=((h.new (c:=.dct kp ep) z3).new (c:=.dct kf ef) ((mup_ne hr.ne).trans z2)).new (c:=.obj t.B7 nX_) ((mup_ne n1).trans ((mup_ne n2).trans z1));refine⟨kf,ef,kp,ep,K,Kp,?_⟩;have e:∀a,M' a=mup (mup (mup M p (.dct kp ep)) f (.dct kf ef)) r wj! a:=λa=>by
  by_cases c1:a=r
  .rw[c1,mup_same];exact hr.ob
  .rw[mup_ne c1];by_cases c2:a=f
   .rw[c2,mup_same];exact hf
   .rw[mup_ne c2];by_cases c3:a=p
    .rw[c3,mup_same];exact hp
    .rw[mup_ne c3];exact fr a c1 c2 c3
 rw[show M'=_ from funext e];exact h3
def c5g:[root,Db].Nodup:=IQ.mpr ⟨by rw[IR];exact b5i,Q!⟩
def c5c:∀q∈pp_,(Df q.1).isSome=true:=λq hq=>by
 obtain rfl|hq:=HV.mp hq
 .rfl
 .rw[IR.mp hq];rfl
def a6f{q1 q2:WS}{ρ:Ad}{R:p_}(h:q1 ρ M λr M1=>match r with|.nx ba=>q2 ba M1 R|.rt d=>R aP_ M1):Ah q1 q2 ρ M R:=h
def a9j{ρ:Ad}{fo:e_}{fs:aK_}{fs':Addr->List b5!}{R:p_}{u:kG!}(L:HL M0 M (u++[(o,.obj C fs)]))(h0:xq!)(hl:bj_<100)(hf:∀a,Hw x cp_ fs=fs' a)(k:∀a M',HL M0 M' ((a,.dct [] 0)::u++[(o,.obj C (fs' a))])->R ad_ M'):Ga C x cA! Gm ρ M R:=nV λa ha=>by
 have L1:=L.new (c:=d6_) ha;exact gA (fs:=fs) (fs':=fs' a) h0 (L1.cell (o,_) b_) hl (hf a) (k a _ (L1.put (u:=(a,.dct [] 0)::u) (c:=.obj C (fs' a))))
def cN{α:Type}{l:O!}{a:α}(i:Nat)(h:l[i]?=some a):a∈l:=NH h
def c7o{M':Mh}{f1 p1 f2 p2:xz!}{kf2:j!}{UX qq UY lu:Nat}(L:HL M M' [(a6,.dct [] 0),(a5,.dct [] 0),(a4,.dct [] 0),(a3,.dct [] 0),(r2,.obj t.B7 [("following",.fn f2),("preceding",.fn p2)]),(f2,.dct kf2 UY),(p2,.dct tj lu),(r1,.obj t.B7 [("following",.fn f1),("preceding",.fn p1)]),(f1,.dct UZ UX),(p1,.dct U' qq),(a2,.dct zn! 2),(a1,.dct zn_ 2),(o,.obj t.B6 bJ!)])(c1:Ib [] UZ)(c2:Ib [] U')(c3:Ib [] kf2)(c4:Ib [] tj):∃O,Bt t M' o O W0 2/\∀b,M b≠none->M' b=M b/\¬O b:=by
 let ad:Nz->Addr
  |.ob=>o
  |.par=>a1
  |.dir true=>a2
  |.dir false=>a3
  |.nums=>a4
  |.wri=>a5
  |.hid=>a6
  |.row x _=>if x=root then r1 else r2
  |.fol x _=>if x=root then f1 else f2
  |.pre x _=>if x=root then p1 else p2
  |.nm _=>o
 have br:¬Db=root:=JE b5i;have hl:(zp!).map ad=[a6,a5,a4,a3,r2,f2,p2,r1,f1,p1,a2,a1,o]:=by
  simp only[IE,NN,ad,IF br,KA]
 have d:∀{x:D} {b:Bool},(Km W0).dm b x->b=true/\zq!:=λ{x b} l=>by
  cases b with
  |true=>exact⟨rfl,Or.resolve_left l λz=>by cases z⟩
  |false=>cases l
 have lm:∀r,Jp (Km W0) r->r∈zp!:=λr l=>by
  cases r with
  |row x b=>obtain⟨rfl,rfl|rfl⟩:=d l;exact cN 7 rfl;exact cN 4 rfl
  |fol x b=>obtain⟨rfl,rfl|rfl⟩:=d l;exact cN 8 rfl;exact cN 5 rfl
  |pre x b=>obtain⟨rfl,rfl|rfl⟩:=d l;exact cN 9 rfl;exact cN 6 rfl
  |nm x=>cases l
  |dir b=>cases b;exact cN 3 rfl;exact cN 10 rfl
  |ob=>exact cN 12 rfl
  |par=>exact cN 11 rfl
  |nums=>exact cN 2 rfl
  |wri=>exact cN 1 rfl
  |hid=>exact cN 0 rfl
 have nd:=L.nd;have Z9:∀{l:kG!},HL M M' l->∀a∈l.map c_,M a=none:=λL a ha=>by obtain⟨q,hq,rfl⟩:=IU.mp ha;exact L.fr q hq
 have A1:ad (.row root true)=r1:=IB rfl;have A2:ad (.row Db true)=r2:=IF br;have A3:ad zq_=f1:=IB rfl;have A4:ad zr!=f2:=IF br;have A5:ad zr_=p1:=IB rfl;have A6:ad zs!=p2:=IF br;have kr:∀{y z:D},kget pp_ root=some y:=IB rfl;have kb:∀{y z:D},kget pp_ Db=some z:=(IF b5i).trans (IB rfl);refine⟨Vx ad (Km W0),⟨ad,rfl,xW!,λr l=>?_,λr r' l l'=>a7m (by rw[hl];exact nd) (lm r l) (lm r' l')⟩,λb hb=>⟨L.kp b hb,λ⟨r,l,e⟩=>?_⟩⟩
 .have hc:=L.cell;cases r with
  |ob=>exact⟨_,hc _ (cN 12 rfl),rfl⟩
  |par=>exact⟨_,hc _ (cN 11 rfl),_,_,rfl,IN 2,kr,kb,λi p h=>by cases h⟩
  |dir b=>
   cases b with
   |true=>
    refine⟨_,hc _ (cN 10 rfl),_,_,rfl,IN 2,λx=>⟨fs!,fs!⟩⟩
    .obtain⟨_,rfl|rfl⟩:=d h
     .rw[A1];exact kr
     .rw[A2];exact kb
    .exact(IF λz=>h (.inr (.inl z.symm))).trans (IF λz=>h (.inr (.inr z.symm)))
   |false=>exact⟨_,hc _ (cN 3 rfl),_,_,rfl,JK 2,λx=>⟨λh=>hv!,cj_⟩⟩
  |nums=>exact⟨_,hc _ (cN 2 rfl),_,_,rfl,JK 2,zt!⟩
  |wri=>exact⟨_,hc _ (cN 1 rfl),_,_,rfl,JK 2,λs v ⟨x,h,_⟩=>by cases h⟩
  |hid=>exact⟨_,hc _ (cN 0 rfl),_,_,rfl,JK 2,λs=>⟨λh=>hv!,λ⟨x,h,_⟩=>by cases h⟩⟩
  |row x b=>
   show"#5"
   .exact⟨_,by rw[A1];exact hc _ (cN 7 rfl),by show _=Cw.obj _ [(_,.fn (ad zq_)),(_,.fn (ad zr_))];rw[A3,A5]⟩
   .exact⟨_,by rw[A2];exact hc _ (cN 4 rfl),by show _=Cw.obj _ [(_,.fn (ad zr!)),(_,.fn (ad zs!))];rw[A4,A6]⟩
  |fol x b=>
   show"#5"
   .exact⟨_,by rw[A3];exact hc _ (cN 8 rfl),JK 2,_,_,rfl,c1⟩
   .exact⟨_,by rw[A4];exact hc _ (cN 5 rfl),JK 2,_,_,rfl,c3⟩
  |pre x b=>
   show"#5"
   .exact⟨_,by rw[A5];exact hc _ (cN 9 rfl),JK 2,_,_,rfl,c2⟩
   .exact⟨_,by rw[A6];exact hc _ (cN 6 rfl),JK 2,_,_,rfl,c4⟩
  |nm x=>cases l
 .have:=IM (f:=ad) (lm r l);rw[hl,e]at this;exact hb (Z9 L b this)
def a0e{ρ:Ad}(hR:∀o O M',M o=none->Bt t M' o O W0 2->ps!->R ai_ M'):Hj t.B6 1 (Hn t) Af ρ M R:=by
 refine⟨rfl,λo ho=>n!⟩;have L:HL M (mup M o zu_) [(o,.obj t.B6 [])]:=HL.new (l:=[]) ps_ ho;generalize mup M o zu_=M1 at L ⊢;refine kY λa1 Z'=>⟨mup_same,pt!,c5c,c5g,?_⟩
 replace L:=(L.new (c:=d6_) Z').put (u:=[]) (c:=.dct zn_ 2)
 generalize mup (mup _ _ _) a1 _=M2 at L ⊢;refine gA (fs:=[]) (fs':=[cw!]) rfl (L.cell (o,_) (cN 1 rfl)) c! f2_ ?_
 replace L:=L.put (u:=[_]) (c:=.obj t.B6 [cw!])
 generalize mup _ o _=M3 at L ⊢;refine kY λa2 ha2=>?_
 replace L:=L.new (c:=d6_) ha2
 refine pc rfl (uL λr1 f1 p1 N1 z1 z2 z3 n1 n2 R1 _ K1=>?_);obtain⟨UZ,UX,U',qq,c1,c2,L⟩:=L.row z1 z2 z3 n1 n2 R1 K1;clear z1 z2 z3 n1 n2 R1 K1;refine pc rfl (uL λr2 f2 p2 N2 z1 z2 z3 n1 n2 R2 _ K2=>?_);obtain⟨kf2,UY,tj,lu,c3,c4,L⟩:=L.row z1 z2 z3 n1 n2 R2 K2;refine⟨L.cell (a2,_) (cN 6 rfl),pt!,c5c,c5g,?_⟩
 replace L:=L.put (u:=[_,_,_,_,_,_]) (c:=.dct zn! 2)
 generalize mup _ a2 _=M4 at L ⊢;refine gA (fs:=[cw!]) (fs':=[cw!,e2!]) rfl (L.cell (o,_) (cN 8 rfl)) zw_ f2_ ?_
 replace L:=L.put (u:=zx!) (c:=.obj t.B6 [cw!,e2!])
 generalize mup _ o _=M5 at L ⊢;refine a6f (a9j (u:=zx!) (fs':=λa=>[cw!,e2!,("texts",.fn a)]) L rfl zx_ b3_ λa3 M6 L=>?_);refine a6f (a9j (u:=[_,_,_,_,_,_,_,_,_]) (fs':=λa=>[cw!,e2!,n6!,("numbers",.fn a)]) L rfl zy! b3_ λa4 M7 L=>?_);refine a6f (a9j (u:=[_,_,_,_,_,_,_,_,_,_]) (fs':=λa=>[cw!,e2!,n6!,wv_,("written",.fn a)]) L rfl kK! b3_ λa5 M8 L=>?_);refine a9j (u:=[_,_,_,_,_,_,_,_,_,_,_]) (fs':=oF a1 a2 a3 a4 a5) L rfl (by show 5<100;decide) b3_ λa6 M' L=>?_;obtain⟨O,J,h2⟩:=c7o L c1 c2 c3 c4;exact⟨rfl,hR o O M' ho J h2⟩
end
inductive Pb:OW->List Op->OW->Prop
 |nil {W:OW}:Pb W [] W
 |cons {W W1 W2:OW} {o:Op} {os:h!}:Sl W o.nm o.d W1->Pb W1 os W2->Pb W hw! W2
def Lp(wd:j!)(os:h!):List Op:=os.filter λo=>decide (Fe o.d=none/\¬kget wd o.nm=some bC_)
section
variable{t:Ar}{M:Mh}{R:D->Mh->Prop}
def EV(t:Ar):WS:=Ah gs! tU_
def a9v{e0:Nat}{ops:h!}(hq:∀x∈ops,kget kq x.nm≠none↔Undn wd x):∀(os:h!) (x1:D) (y z:am_) (M:Mh) (O:aQ!) (W W':OW) (pre:b!) (B:Nat) (R:p_),
  (∀x∈os,x∈ops/\DG x.d)->zz_->(pv!).Nodup->Bt t M o O W B->Vt W pre->Pb W pv_ W'->B+20*aT!<3900->M q=some (.dct kq e0)->¬O q->
  (∀M' O' y' z',Bt t M' o O' W' (B+20*aT!)->zA!->Fr M O M' O'->R (.nx [Z!,X_,bi_,y',z']) M')->
  Ih al_ aj! (EV t) aw_ [Z!,X_,bi_,y,z] M R
 |[],x1,y,z,M,O,W,W',pre,B,R,_,_,_,hO,w,hr,_,_,_,hR=>by
  cases hr;exact⟨trivial,hR M O y z hO ⟨pre,w⟩ .refl⟩
 |x::os,x1,y,z,M,O,W,W',pre,B,R,hd,hp,nd,hO,w,hr,hB,ow,vq,hR=>by
  refine bg!;show Ah (Am 4 _) _ zB! M _;obtain⟨hx,jq⟩:=hd x HX;simp only[IH]at hB hR;rw[IE,IQ]at nd;have es:Fd D_ Aw cY_ zB!=some x.nm:=a9g x;obtain⟨kn,fw⟩:=a7l x;have yw:Il true M x.nm bO!=some (.bl (!(kget kq x.nm).isSome)):=by simp[Il,ow,fw]
  have f4:Aa 4 d7!=some x.nm:=rfl;have ul:Aa 2 d7!=some bO!:=rfl;have f1':Aa 1 d7!=some ai_:=rfl;have f3':f2 Aj D_ az_ d7!=some x.d:=by
   show Aj x.v bo!=_;simp[Op.v,Aj,Cs,Du]
  show As tS_ _ _ d7! M _;simp only[As,wT,w2,wl,f4,ul,yw];have hu:=hq x hx;have rest:∀(M1:Mh) (rf:aQ!) (W1:OW) (vt:b!),Bt t M1 o rf W1 bt!->Vt W1 vt->(∀y∈os,y.nm∉vt)->Pb W1 pv_ W'->Fr M O M1 rf->Ih al_ aj! (EV t) aw_ d7! M1 R:=λM1 rf W1 vt J h2 h3 h4 h5=>
   a9v (o:=o) (q:=q) (kq:=kq) (wd:=wd) (e0:=e0) hq os x1 pw_ (some x.nm) M1 rf W1 W' vt bt! R px! h3 nd.2 J h2 h4 a! ((zC_).1.trans ow) (zC_).2 (λM' O' y' z' g1 g2 g3=>hR M' O' y' z' (by rw[zD!];exact g1) g2 (h5.trans g3))
  by_cases c:kget kq x.nm=none
  .rw[c,IB c5_];have hc:∀(K:r_),Mv t [aK!,x.nm,x.d] M K->Ao 3 (Mv t) tU! d7! M K:=λK h=>by
    exact cv_
   refine gK (hc _ ?_);obtain⟨k,a,e,hk,_,vw⟩|⟨k,r,e,_,_,vw⟩:=sS jq
   .have:Lp wd hw_=Lp wd os:=by unfold Lp;rw[KF (by simp[vw])]
    rw[this]at hr;rw[e];exact c1y hk (rest M O W pre oy! w px_ hr .refl)
   .have hne:¬kget wd x.nm=some bC_:=λz=>absurd c (hu.mpr ⟨vw,z⟩);have:Lp wd hw_=x::Lp wd os:=by unfold Lp;rw[KD (by simp[vw,hne])]
    rw[this]at hr;cases hr with
    |cons hs hr=>
     have w1:=b4s hs w kL!;refine c1x hO w kL! hs a! λM1 rf J h2=>rest M1 rf _ _ J w1 zF! hr h2;obtain z|z:=II.mp z
     .exact hp y dO_ z
     .rw[IR]at z;exact nd.1 zG_
  .have hU:=hu.mp c;obtain⟨v,hv⟩:=Option.ne_none_iff_exists'.mp c;rw[hv,T_];have:Lp wd hw_=Lp wd os:=by unfold Lp;rw[KF (by simp[hU.1,hU.2])]
   rw[this]at hr;exact rest M O W pre oy! w px_ hr .refl
def b2k{ops:h!}(nd:d3!)(nn:zH!)(hl:d3_)(hd:hs!)(hr:Pb W0 (Lp hs_ aS_) W')
  (hR:∀o M' O',M o=none->Bt t M' o O' W' 1500->zH_->(∀b,M b≠none->M' b=M b/\¬O' b)->R ai_ M'):Jk t b9_ M R:=by
 refine n!;show Ah tS! _ ze_ M _;simp only[Ah,Am];refine a0e λo O M1 ho hO fr=>?_;have hc:∀(K:r_),Ll b9_ M1 K->Ao 1 Ll aX_ [d4_,X_,none,none,none] M1 K:=λK h=>cv_;refine hc _ (b1s nd hl hd λq M2 ep kq hq fm hkq ox=>?_);have hi:Ei i4! zI!=some hr!:=a1h (lX nd hl);show Ec (Ja _) _ (EV t) zI! M2 _;simp only[Ec,Ja,hi,Fc];have hp:(aS_).Perm ops:=bV ops;have vq:¬O q:=λz=>hO.live z hq;have hO2:Bt t M2 o O W0 2:=hO.keep λc hc=>ox c (hO.live hc);have vp:∀x∈ops,kget kq x.nm≠none↔Undn hs_ x:=λx hx=>by
  rw[hkq];show"#1"
  .rintro⟨y,hy,e,hu⟩;have:y=x:=a7m nn hy hx e;rw[<-this];exact hu
  .exact λh=>⟨x,hx,rfl,h⟩
 refine a9v (t:=t) (wd:=pm!) (e0:=ep) (ops:=ops) vp aS_ ht! none none M2 O W0 W' [] 2 _ (λx hx=>⟨hp.mem_iff.mp hx,hd x zI_⟩) zJ! zJ_ hO2 c5x hr kM! fm vq λM' O' y' z' g1 g2 g3=>?_;refine hR o M' O' ho (g1.mono kM!) g2 λb hb=>?_;obtain⟨e1,e2⟩:=fr b hb;have e3:=ox b wF!;have g4:=g3 b zK! e2;exact⟨by rw[g4.1,e3,e1],g4.2⟩
end
def Pu(f:WE)(ρ:Ad)(M:Mh)(d:D):Prop:=∀K:D->Mh->Prop,K d M->f ρ M K
def Tx(f:WT)(ρ:Ad)(M:Mh)(b:Bool):Prop:=∀K:Bool->Mh->Prop,K b M->f ρ M K
def Vv(g:WF)(ds:b!)(M:Mh)(d:D):Prop:=∀K:D->Mh->Prop,K d M->g ds M K
section
variable{M:Mh}{ρ:Ad}
def iJ{α:Type}{x:α}{R:pl!}(h:R x):Fc bz! R:=h
def aT{f:e_}(h:cs_):Pu (wl f) ρ M d:=λK hK=>by rw[cF h];exact hK
def eR{fs:aK_}{fo:WE}(h:Pu fo ρ M cp_)(hM:M a=some oy_)(hv:fs.lookup x=some v):Pu (Ay C x fo) ρ M v:=λK hK=>by
 refine h _ ?_;have:Ii C x M cp_=some v:=by simp only[Ii,hM,KA,hv]
 rw[this];exact hK
def eS{g:bi!}{fa fb:WE}(ha:Pu fa ρ M x)(hb:Pu fb ρ M y)(hg:zL!):Pu (w2 g fa fb) ρ M d:=λK hK=>by
 refine ha _ (hb _ ?_);rw[hg];exact hK
def oA{ep:Nat}{fo fa fb:WE}(ho:kN!)(ha:Pu fa ρ M y)(hb:Pu fb ρ M z)(hp:bt_)(hk:bM!)(hd:(hx!).getD z=d):Pu (Hs fo fa fb) ρ M d:=λK hK=>by
 have c:Ea M z!=some kF!:=by simp[Ea,hp]
 refine ho _ ?_;rw[c];refine ha _ (hb _ ?_);rw[c,hk];show K ((hx!).getD z) M;rw[hd];exact hK
def a9r{g:ht_}{f:WE}(h:Pu f ρ M x)(hg:g M [x]=some d):Pu (w1 g (Ab f Af)) ρ M d:=λK hK=>by
 refine h _ ?_;show Fc (g M [x]) λd=>K d M;rw[hg];exact hK
def oC{g:WF}{f1:WE}(J:kN_)(hg:Vv g [a] M d):Pu (Ao 1 g (Ab f1 Af)) ρ M d:=λK hK=>by
 exact J _ kO!
def oB{g:WF}{f1 f2:WE}(J:kN_)(h2:Pu f2 ρ M b)(hg:Vv g al! M d):Pu (Ao 2 g zM!) ρ M d:=λK hK=>by
 exact J _ (h2 _ kO!)
def b5p{g:WF}{f1 f2 f3:WE}(J:kN_)(h2:Pu f2 ρ M b)(h3:Pu f3 ρ M c)(hg:Vv g fJ! M d):Pu (Ao 3 g (Ab f1 (Ab f2 (Ab f3 Af)))) ρ M d:=λK hK=>by
 exact J _ (h2 _ (h3 _ kO!))
def lB{g:WF}{fo f1:WE}(h0:Pu fo ρ M ai_)(ho:Ed C m M ai_)(J:kN_)(hg:Vv g [aK!,a] M d):Pu (Bd C m 2 g fo (Ab f1 Af)) ρ M d:=λK hK=>by
 exact h0 _ ⟨ho,J _ kO!⟩
def zP{f:WE}{b:Bool}(h:Pu f ρ M bl!):Tx (wT f) ρ M b:=λK hK=>by unfold wT;exact h _ hK
def lC{f:W_}{b:Bool}(h:f ρ=some b):Tx (Dd f) ρ M b:=λK hK=>by unfold Dd;rw[h];exact hK
def c6q{f:WT}{b:Bool}(h:Tx f ρ M b):Tx (Kl f) ρ M (!b):=λK hK=>by unfold Kl;exact h _ hK
def eP{i:Nat}{f:WE}{q:WS}{R:p_}(h:kO_)(k:q bG_ M R):Ah (Am i f) q ρ M R:=by exact h _ k
def dJ{f:WE}{R:p_}(h:kO_)(k:R aP_ M):Bj f ρ M R:=by unfold Bj;exact h _ k
def tH{ft:WT}{q1 q2:WS}{R:p_}(h:zN_)(k:q1 ρ M R):As ft q1 q2 ρ M R:=by refine h _ ?_;rw[A!];exact k
def tI{ft:WT}{q1 q2:WS}{R:p_}(h:py_)(k:hn_):As ft q1 q2 ρ M R:=by refine h _ ?_;rw[T_];exact k
def jS{ft:WT}{q1 q2:WS}{R:p_}(h:py_)(k:hn_):Ah pz! q2 ρ M R:=by exact tI h k
def yY{fs:am!}{ds:b!}(h:hk!)(hl:yv!):Au fs ρ=some c7_:=by unfold Au;rw[h];show yv_=_;rw[yw!]
def c6p{fa fb:WE}{b c:Bool}(h:zO!)(h2:b=false->Pu fb ρ M kP!)(e:b=true->c=true):Pu (Wb fa fb) ρ M kP!:=λK hK=>by
 refine h _ ?_;cases b with
 |true=>rw[e rfl]at hK;exact hK
 |false=>exact h2 rfl _ hK
def b5o{h1:j!}{ep:Nat}{fo fi fv:WE}{R:p_}(hv:Pu fv ρ M v)(ho:kN!)(hi:Pu fi ρ M y)(hp:bt_)(hk:bM!)(hl:cE!)(q:R ad_ fs_):Bx fo fi fv ρ M R:=by refine hv _ zO_;rw[iI hp hk hl];exact q
def a9s{fa fb:WE}{b c:Bool}(h:zO!)(h2:b=true->Pu fb ρ M kP!)(e:b=false->c=false):Pu (Ka fa fb) ρ M kP!:=λK hK=>by
 refine h _ ?_;cases b with
 |true=>exact h2 rfl _ hK
 |false=>rw[e rfl]at hK;exact hK
def c1q{f g h:WE}(J:kO_)(h2:Pu g ρ M e)(h3:Pu h ρ M k):Pu (Rm (Ab f (Ab g (Ab h Af)))) ρ M (.tup [d,e,k]):=λK hK=>J _ (h2 _ (h3 _ ⟨zP!,hK⟩))
def c1p{xs:b!}{j:Int}{i:Nat}{fo fi fv:WE}{R:p_}(hv:Pu fv ρ M v)(ho:kN!)(hi:Pu fi ρ M b4_)(hp:pz_)(hx:Du xs.length j=some i)(q:R ad_ zP_):Bx fo fi fv ρ M R:=by
 refine hv _ zO_;have:Jv M z! b4_ v=some zP_:=by simp[Jv,hp,hx]
 rw[this];exact q
end
section
variable{t:Ar}{M:Mh}{R:D->Mh->Prop}
def b8v(o:Op):∀{l:h!},Ol Op.key l->∃u v,l=u++v/\Ql Op.key o l=u++o::v/\(∀x∈u,Kq o.key x.key=false)/\∀x∈v,Kq o.key x.key=true
 |[],_=>⟨[],[],rfl,rfl,Q!,Q!⟩
 |y::l,h=>by
  unfold Ol at h;rw[KW]at h;unfold Ql;cases e:Kq o.key y.key with
  |true=>
   refine⟨[],y::l,rfl,rfl,Q!,aB!⟩;obtain rfl|hx:=HV.mp hx
   .exact e
   .exact jN e (h.1 x hx)
  |false=>
   obtain⟨u,v,e1,e2,e3,e4⟩:=b8v o h.2;refine⟨y::u,v,by rw[e1];rfl,by rw[e2];rfl,aB!,e4⟩;obtain rfl|hx:=HV.mp hx
   .exact e
   .exact e3 x hx
def d2x(a b c d:Int):HT.lexLt al! [c,d]=Kq dj_ (c,d):=by
 rw[LR,oX,HT.lexLt_cons];by_cases h:a=c
 .rw[IB h,HT.lexLt_cons];by_cases h':b=d
  .rw[IB h'];simp[HT.lexLt_nil_nil];omega
  .rw[IF h',JC];dsimp only;omega
 .rw[IF h,JC];dsimp only;omega
def Yw(l:h!)(o:Op):Nat->Bool
 |0=>false
 |j+1=>match l[j]? with|some f=>Kq o.key f.key|none=>false
def BY:Ad->Option Bool:=Co u1! u1_
def b0g{l:h!}{o:Op}{k:Nat}(hk:k<=aC!):BY [Z_,zQ!,K!,kP_]=some (Yw l o k):=by
 cases k with
 |zero=>simp[BY,Co,fT,f2,Aa,fC,Ks,Bw,Yw]
 |succ j=>
  have hj:j<aC!:=hk;have e1:l[j]?=some l[j]:=IL hj;have e2:Cs (l.map Op.v) pA_=some (ca_).v:=by
   show"#3";simp[hj]
  have e3:Ln 1 jo! pB_=some (ca_).v:=by
   have:zQ_ - 1=(j:Nat):=by omega
   simp[Ln,f2,Aa,fC,Cu,Bw,this,e2]
  have e4:Aj (ca_).v bB!=some (.int (ca_).tm):=by simp[Op.v,Aj,Cs,Du]
  have e5:Aj (ca_).v F_=some (.int (ca_).h):=by simp[Op.v,Aj,Cs,Du]
  have e6:Aj o.v bB!=some ft!:=by simp[Op.v,Aj,Cs,Du]
  have e7:Aj o.v F_=some cb!:=by simp[Op.v,Aj,Cs,Du]
  have e8:AS (.tup [.int (ca_).tm,.int (ca_).h]) yZ_=some (.bl (Kq o.key (ca_).key)):=by
   simp[AS,Mp,d2x,Op.key]
  have e9:Ks pB! F_=some B!:=by simp[Ks,Bw]
  have f3:Aa 3 pB_=some pB!:=rfl;have ul:Aa 2 pB_=some o.v:=rfl;simp only[BY,Co,fT,f2,f3,fC,MX,e9,Au,Ac,Ag,e3,e4,e5,ul,e6,e7,KA,IH,MN,show(0+1+1:Nat)<=1000 by omega,e8,Yw,e1]
def a3g{o:Op}{u v:h!}(J:∀x∈u,Kq o.key x.key=false)(h2:∀x∈v,Kq o.key x.key=true)(R:p_)(hR:R (.nx kQ!) M):
  ∀(m:Nat),m<=v.length->∃n,Di (Dd BY) nz_ n [Z_,pD!,K!,some (.int pE_)] M R
 |0,hm=>by
  refine e6!;have et:=b0g (x0:=x0) (o:=o) (l:=u++v) (k:=bP_) b_;have ef:Yw X! o bP_=false:=by
   cases hu:bP_ with
   |zero=>rfl
   |succ j=>
    have:X![j]?=some (u[j]' a!):=by rw[LA a!,IL a!]
    simp only[Yw,this];exact J _ hy_
  rw[ef]at et;simp only[Di,Dd,Nat.add_zero,et];exact hR
 |m+1,hm=>by
  obtain⟨n,hn⟩:=a3g J h2 R hR m a!;refine⟨n+1,?_⟩;have et:=b0g (x0:=x0) (o:=o) (l:=u++v) (k:=bP_+(m+1)) a4!;have ef:Yw X! o (bP_+(m+1))=true:=by
   show Yw X! o (bP_+m+1)=true;have:X![bP_+m]?=some (v[m]' a!):=by rw[JV a!,show u.length+m - u.length=m by omega,IL a!]
   simp only[Yw,this];exact h2 _ hy_
  rw[ef]at et;have es:f2 Cu D_ w_ [Z_,pD!,K!,some (.int pF!)]=some (.int pE_):=by
   have:pF! - 1=pE_:=by omega
   show Cu (.int pF!) a9!=_;simp only[Cu,Bw,this]
  simp only[Di,Dd,et,KA,Am,wl,es];exact hn
def FW:WS:=Ah u0_ (Ah (Kt (Dd BY) nz_) u2!)
def b0h:∀(os:h!) (x0:D) (y z:am_) (acc:h!) (R:p_),Ol Op.key acc->((acc++os).map Op.key).Nodup->cF!+aT!<1000->
  (∀dr y' z',Ol Op.key dr->dr.Perm (acc++os)->R (.nx [Z_,some (.lst (dr.map Op.v)),y',z']) M)->Ih bD! aj! FW aw_ [Z_,hz!,y,z] M R
 |[],x0,y,z,acc,R,hs,nd,hl,hR=>⟨trivial,hR acc y z hs b_⟩
 |o::os,x0,y,z,acc,R,hs,nd,hl,hR=>by
  refine bg!;show Ah (Am 3 _) _ pF_ M _;obtain⟨u,v,e1,e2,e3,e4⟩:=b8v o hs;simp only[IH]at hl;have el:Np mU! pF_=some zU_:=by
   have:f1 Bi dG_ pF_=some zU_:=by
    show Bi [.lst zT_]=_;simp[Bi]
   unfold Np;rw[this];rfl
  simp only[Ah,Am,wl,el];have av:cF!=bP_+v.length:=by rw[e1,JA]
  rw[av,e1];refine a3g e3 e4 _ ?_ v.length v_;have ei:Wi 1 D_ C_ kQ!=some (.nx [Z_,some (.lst ((kQ_).map Op.v)),K!,some pE!]):=by
   have:(X!).length<big:=by unfold big;rw[JA];omega
   have e3:Aa 3 kQ!=some pE!:=rfl;have e2:Aa 2 kQ!=some o.v:=rfl;unfold Wi;show(if 0<=(pD_:Int)/\(pD_:Int).toNat<=(pC_).length/\(pC_).length<big then _ else none)=_;rw[IB ⟨s_,Q!,by rw[IP];exact this⟩];simp
  simp only[Zg,ei,Fc];have hp:(kQ_).Perm (acc++[o]):=by rw[e1];simpa using(OM (a:=o) (l₁:=u) (l₂:=v)).trans (List.perm_append_comm (l₁:=[o]) (l₂:=u++v))
  have cm:Ol Op.key kQ_:=by
   rw[<-e2];refine vG hs λy hy=>?_;rw[IZ,JL]at nd;exact λz=>nd.2.2 _ (IM hy) o.key b_ z.symm
  have nz:((u++o::v++os).map Op.key).Nodup:=by
   have:(u++o::v++os).Perm (acc++o::os):=by
    have:=hp.append_right os;simpa using this
   exact(this.map _).nodup_iff.mpr nd
  exact b0h os x0 _ _ kQ_ R cm nz (by have:=hp.length_eq;simp at this;simp;omega) λdr y' z' J h2=>hR dr y' z' J (h2.trans (by have:=hp.append_right os;simpa using this))
def nH{ops:h!}(nd:d3!)(hl:d3_)(hR:R (.lst hr!) M):Ef b9_ M R:=by
 refine n!;show Ah nc! (Ah (Ec jq! bD! FW) c1_) zY_ M _;have e1:Ni 1 Ag zY_=some (.nx zZ!):=by simp[Ni,Ag]
 have e2:Ei q! zZ!=some cE_:=rfl;refine b0h ops _ none none [] _ (ji!) (by simpa using nd) a4! λdr y' z' J h2=>?_;have:dr=Ey ops:=kX J k5_ (by simpa using h2.trans (by simpa using(bV ops).symm));rw[this];exact hR
def a4m{neg:Bool}:Il neg M P! oO!=some (.bl (if neg then ! oO_ else oO_)):=by show Il.inS neg M P! oO!=_;simp[Il.inS,Rp,Az,Bv,Gx,Dm,a1m]
def FZ:WS:=As u4! u4_ Bp
def d2c{o:Op}(ho:DG o.d):∃k r,o.d=.tup de_/\(Fe o.d=none->hq!=false/\(k=="redo")=false)/\(∀u,Fe o.d=some u->r=[u.2]/\k=u.1/\yY_/\NameG u.2):=by
 obtain⟨k,a,e,hk,fq,hu⟩|⟨k,r,e,J,h2,hu⟩:=sS ho
 .exact⟨k,[a],e,(λz=>by rw[z]at hu;cases hu),(λu om=>by rw[hu]at om;cases om;exact⟨rfl,rfl,hk,fq⟩)⟩
 .exact⟨k,r,e,(λ_=>⟨J,h2⟩),(λu om=>by rw[hu]at om;cases om)⟩
def b8p{o:Op}(e:o.d=.tup de_):pg!=some P!:=by
 have e3:Aj o.v bo!=some o.d:=by simp[Op.v,Aj,Cs,Du]
 rw[e3,e];show Cs (D.str k::r) 0=_;show"#3";simp
def a9b{k:Str}(hk:yX!):pH_=true:=by
 obtain rfl|rfl:=hk
 .rw[y4!];rfl
 .rw[y4_];simp
def a0i:∀(os:h!) (x1:D) (y:am_) (acc:j!) (ep:Nat) (M:Mh) (R:p_),ph!->cF!+aT!<1000->M p=some ph_->
  (∀M' bg y',M' p=some (.dct (Jb kA_ os acc) bg)->kB!->R y6! M')->
  Ih bD! aj! FZ aw_ pg_ M R
 |[],x1,y,acc,ep,M,R,_,_,hp,hR=>y6_
 |o::os,x1,y,acc,ep,M,R,hd,hl,hp,hR=>by
  refine bg!;show FZ bN_ M _;show As _ _ _ bN_ M _;have ho:=hd o HX;simp only[IH]at hl;obtain⟨k,r,e,hn,hs⟩:=d2c ho;have i0:f2 Aj bp_ G! bN_=some P!:=b8p e;simp only[As,wT,w2,wl,i0,fC,a4m];cases hu:Fe o.d with
  |none=>
   obtain⟨J,h2⟩:=hn hu;have:pH_=false:=by rw[z0_,z1!,J,h2];rfl
   rw[this];exact a0i (p:=p) os x1 d4! acc ep M R hr_ a! hp y9!
  |some u=>
   obtain⟨g1,g2,hk,fq⟩:=hs u hu;rw[a9b hk];obtain⟨ka,j5⟩:=xO fq;have i1:f2 Aj bp_ w_ bN_=some u.2:=by
    have e3:Aj o.v bo!=some o.d:=by simp[Op.v,Aj,Cs,Du]
    show y7!;rw[e3,e,g1];show Cs [D.str k,u.2] 1=_;simp[Cs,Du]
   have i2:f2 Bb gr_ i3_ bN_=some fq!:=by
    show(f2 Aj bp_ G! bN_).bind (λx=>Bb x bC_)=_;rw[i0];exact gB k _
   have ou:=iI (y:=u.2) (v:=.bl hq!) hp j5 bs_;have:=a0i (p:=p) os x1 d4! z1_ z2! (mup M p (.dct z1_ z2!)) R hr_ (by have:=kput_len acc u.2 fq!;omega) mup_same (λM' bg y' J h2=>hR M' bg y' (by
    unfold Jb;rw[hu];obtain⟨u1,u2⟩:=u;dsimp only at g2 J ⊢;rw[<-g2];exact J) λb hb=>(pj!).trans pj_)
   simp only[Bx,wl,i1,i2,d2f,ou,Fc];exact this
def a7v{ops:h!}(nd:d3!)(hl:d3_)(hd:hs!)
  (hR:∀p M' ep,M p=none->M' p=some (.dct (Jb kA_ aS_ []) ep)->kB!->R z! M'):Lu b9_ M R:=by
 refine n!;intro p hp;have bx:(aS_).Perm ops:=bV ops;have hc:∀(K:r_),Ef b9_ d6! K->Ao 1 Ef aX_ pk! d6! K:=λK h=>cv_;refine hc _ (nH nd hl ?_);exact a0i (p:=p) aS_ ht! none [] 0 d6! _ y9_ za! mup_same za_
end
def Bk(q:D×D):D:=.tup [q.1,q.2]
def Cv(q:e0_):D:=.tup [q.1,q.2.1,.bl q.2.2]
nonrec def k3(rows wt wn:D):List ap!:=[(.str "rows",rows),(.str "texts",wt),(.str "numbers",wn)]
section
variable{a b c v:D}
def c5a:¬(D.str n7!=D.str n7_):=λz=>absurd pI! j_
def c5b:¬(D.str n7!=D.str n8_):=λz=>absurd pI! j_
def c4y:¬(D.str n7_=D.str n8_):=λz=>absurd pI! j_
def k3r:kget hA! gG_=some a:=by show e7_=_;rw[A!]
def k3t:kget hA! nC_=some b:=by show z3!=_;rw[IF c5a,A!]
def k3n:kget hA! nF!=some c:=by show(if _ then _ else z3!)=_;rw[IF c5b,IF c4y,A!]
def k3p:Bg hA! gG_ v=k3 v b c:=by show e7_=_;rw[A!];rfl
end
def jP{g:D->D}:∀{its:b!} {x:D},kget kS! x=if x∈its then some (g x)else none
 |[],x=>by simp[kget]
 |i::its,x=>by
  rw[IE];unfold kget;by_cases e:i=x
  .subst e;simp
  .rw[IF e,jP];simp[JE e]
def a3w{g:D->D}{v:D}:∀{its:b!},its.Nodup->x∈its->Bg kS! x v=its.map λi=>(i,if i=x then v else g i)
 |[],_,h=>by cases h
 |i::its,nd,h=>by
  rw[IQ]at nd;rw[IE,IE];unfold Bg;by_cases e:i=x
  .subst e;simp only[KA];congr 1;apply LC;intro j hj;rw[IF λz:j=i=>nd.1 (z▸hj)]
  .rw[IF e];simp only[e,JT];rw[a3w nd.2 ((HV.mp h).resolve_left (JE e))]
def xV{g:D->D}{v:D}{its:b!}(h:x∉its):Bg kS! x v=kS!++[(x,v)]:=jO (by rw[JU];simpa using h)
def DB(W:OW)(w wt wn:xz!)(qa:kS_)(e0 e1 e2:Nat):List (Addr×Cw):=(w,.dct pJ_ e0)::(wt,.dct z4! e1)::(wn,.dct z5! e2)::W.its.map λi=>(qa i,.lst e7!)
structure Me(M:Mh)(w:xz!)(O:aQ!)(W:OW)(wt wn:xz!)(qa:kS_):Prop where
 L:∃e0 e1 e2,HL mD! M (DB W w wt wn qa e0 e1 e2)
 O:∀b,O b↔b=w\/b=wt\/b=wn\/∃i∈W.its,qa i=b
def Ca(M:Mh)(w:xz!)(O:aQ!)(W:OW):Prop:=∃wt wn qa,Me M w O W wt wn qa
section
variable{M:Mh}{R:D->Mh->Prop}{w:xz!}{O:Addr->Prop}{W:OW}{ρ:Ad}
section
variable{O:Addr->Prop}{wt wn:xz!}{qa:D->Addr}
def Me.mw(h:d8_):∃e,M w=some (.dct pJ_ e):=by obtain⟨e0,e1,e2,L⟩:=h.L;exact⟨e0,L.cell _ HX⟩
def Me.mt(h:d8_):∃e,M wt=some (.dct z4! e):=by obtain⟨e0,e1,e2,L⟩:=h.L;exact⟨e1,L.cell _ hA_⟩
def Me.mn(h:d8_):∃e,M wn=some (.dct z5! e):=by obtain⟨e0,e1,e2,L⟩:=h.L;exact⟨e2,L.cell _ pK!⟩
def Me.mq(h:d8_)(hi:da_):M (qa i)=some (.lst e7!)/\O (qa i):=by obtain⟨e0,e1,e2,L⟩:=h.L;exact⟨L.cell (qa i,_) (HS _ (HS _ (HS _ (IM hi)))),(h.O _).mpr (.inr z9!)⟩
def Ca.live{b:xz!}(h:aa!)(hb:O b):M b≠none:=by
 obtain⟨wt,wn,qa,hA⟩:=h;obtain rfl|rfl|rfl|⟨i,hi,rfl⟩:=(hA.O b).mp hb
 .obtain⟨e,h⟩:=hA.mw;rw[h];simp
 .obtain⟨e,h⟩:=hA.mt;rw[h];simp
 .obtain⟨e,h⟩:=hA.mn;rw[h];simp
 .rw[(hA.mq hi).1];simp
def Ca.keep{M':Mh}(h:aa!)(k:wG!):Ca M' w O W:=by
 obtain⟨wt,wn,qa,hA⟩:=h;obtain⟨e0,e1,e2,L⟩:=hA.L;refine⟨wt,wn,qa,⟨e0,e1,e2,d5_,L.nd,iB!,Aa!⟩,hA.O⟩;refine(k _ ((hA.O _).mpr ?_)).trans (L.cell q hq);simp only[DB,HV,IU]at hq;obtain rfl|rfl|rfl|⟨i,hi,rfl⟩:=hq
 .exact cM_
 .exact .inr aj_
 .exact .inr fu_
 .exact .inr z9!
def Me.fr{c:Cw}{b:xz!}(h:d8_)(hb:b=w\/b=wt\/b=wn\/∃i∈W.its,qa i=b):Fr M O po! O:=b9e λa ha=>mup_ne λz=>ha (by rw[z];exact(h.O b).mpr hb)
end
def fA{ep:Nat}(h:bt_)(hk:bM!):Ce M z! y=kget h1 y:=by simp[Ce,h,hk]
def ixw{ep:Nat}{v:D}(h0:Aa 0 ρ=some z!)(h:bt_)(hv:kget h1 aS!=some v)(K:r_):w2 Ce l! (wl (fC aS!)) ρ M K=K v M:=by have:Ce M z! aS!=some v:=(fA (k:=some (.inl (.inr s))) h rfl).trans hv;simp only[w2,wl,h0,fC,this]
def b0w{q:D×D}:Aj (Bk q) F_=some q.1:=by simp[Bk,Aj,Cs,Du]
def b0v{q:D×D}:Aj (Bk q) a9!=some q.2:=by simp[Bk,Aj,Cs,Du]
def zL{W:OW}(w:Ch W):∀q∈W.rows,Hm q.1/\Sd q.2/\Ig W q.2:=λq hq=>⟨w.nm _ ((w.ri q.1).mp (IM hq)),a8a w (w.rp q.1 q.2 hq),w.rp q.1 q.2 hq⟩
end
def b3t(ha:Sd a)(hb:Sd b)(hc:Sd c)(hd:Sd d):Bb hB! (.tup [c,d])=some (.bl (decide (a=c/\b=d))):=by
 unfold Bb;have d1:=nN ha;have d2:=nN hb;have e:Eh hB! (.tup [c,d])=decide (a=c/\b=d):=by
  simp only[Eh,Ij,lY ha hc,lY hb hd,Bool.and_true];by_cases J:a=c<;>by_cases h2:b=d<;>simp[J,h2]
 rw[e];simp only[Az,Bv,eL ha,eL hb,eL hc,eL hd,Gx,Dm,Bool.and_true,Bool.true_and];rw[IB a4!]
def c0b{xs:b!}{k:Nat}(h:k<=i_):Be Q_ none kU!=some (.lst (xs.take k)):=by
 have e:HT.sIx xs.length xs.length kU!=k:=by rw[HT.sIx_nat];omega
 simp only[Be];congr 2;unfold Dh;rw[e,HT.sIx_none];simp
def a5h{xs:b!}{k:Nat}(h:k<=i_):Be Q_ kU! none=some (.lst (xs.drop k)):=by
 simp only[Be];congr 2;have e:HT.sIx xs.length 0 kU!=k:=by rw[HT.sIx_nat];omega
 have e2:HT.sIx xs.length xs.length none=i_:=rfl;unfold Dh;rw[e,e2,Au_]
section
variable{M:Mh}{R:D->Mh->Prop}{w:xz!}{O:Addr->Prop}{W:OW}{ρ:Ad}
def DH:Ad->Option Bool:=Co u6! u7!
def c3n{rs:j!}{k:Nat}(hk:k<=aq!)(hl:aq!<5000)(je:Ab_)(hp:Sd p):DH bQ!=some Ac!:=by
 have el:f1 Bi gq! bQ!=some kU_:=by
  show Ac_;simp[Bi]
 by_cases c:k<aq!
 .have e1:rs[k]?=some rs[k]:=IL c;have ea:Cs d9! cb_=some kV!:=by
   show"#3";simp[c]
  have e3:f2 Aj N! S_ bQ!=some kV!:=ea;have e4:Ji hy! kU_=some B!:=by simp[Ji,Bw];exact c
  have e6:Er (fv!).2 p=some Ad!:=a0a (je _ hy_).2 hp;have e7:f2 Er u6_ C_ bQ!=some Ad!:=by
   show((f2 Aj N! S_ bQ!).bind λx=>Aj x a9!).bind (λz=>Er z p)=_;rw[e3];show(Aj kV! a9!).bind _=_;rw[b0v];exact e6
  have e8:f2 Ji S_ gH! bQ!=some B!:=by
   show Ad_;rw[el];exact e4
  simp only[DH,Co,fT,e8,e7,MX,KA,e1]
 .have e1:rs[k]?=none:=KJ a!;have e4:Ji hy! kU_=some ab!:=by simp[Ji,Bw];omega
  have e8:f2 Ji S_ gH! bQ!=some ab!:=by
   show Ad_;rw[el];exact e4
  simp only[DH,Co,fT,e8,MX,e1];rfl
def c0g{rs:j!}{k:Nat}(hk:k<aq!)(h:Ho pL_ p=[])(hp:(fv!).2≠p):Ho (rs.take M_) p=[]:=by rw[NG hk,dX,h];rw[rW hp];rfl
def a4o{rs:j!}(hl:aq!<5000)(je:Ab_)(hp:Sd p)(R:p_)(hR:∀k:Nat,k<=aq!->Ho pL_ p=[]->R (.nx bQ!) M):
  ∀(m k:Nat),aq! - k=m->k<=aq!->Ho pL_ p=[]->∃n,Di (Dd DH) u7_ n bQ! M R
 |m,k,hm,hk,hc=>by
  have et:=c3n (x0:=x0) (i:=i) (s:=s) (y:=y) hk hl je hp;by_cases c:k<aq!/\(rs[k]?.map M!)≠some p
  .obtain⟨c1,c2⟩:=c;have e1:rs[k]?=some rs[k]:=IL c1;rw[e1]at et c2;have c3:(fv!).2≠p:=λz=>c2 (by rw[<-z];rfl);rw[show(match(some rs[k]:Option ap!)with|some q=>!decide (q.2=p)|none=>false)=true by simp[c3]]at et;cases m with
   |zero=>omega
   |succ m=>
    obtain⟨n,hn⟩:=a4o hl je hp R hR m M_ a! a! (c0g c1 hc c3);refine⟨n+1,?_⟩;have es:f2 An S_ w_ bQ!=some pM!:=by
     show pM_;simp[An]
    simp only[Di,Dd,et,KA,Am,wl,es];exact hn
  .refine e6!;have ef:Ac!=false:=by
    cases e:rs[k]? with
    |none=>rfl
    |some q=>
     have c1:k<aq!:=(IJ.mp e).1;have:q.2=p:=by
      by_cases z:q.2=p
      .exact z
      .exact absurd ⟨c1,by rw[e];simp[z]⟩ c
     simp[this]
   rw[ef]at et;simp only[Di,Dd,et];exact hR k hk hc
def GG:WS:=As va_ vb! Bp
def GP(rs:j!)(s p:D)(k0 k at_:Nat):Prop:=(at_=k0/\∀j<k,rs[j]?≠some c9_)\/∃j<k,rs[j]?=some c9_/\at_=j+1
def a8d{rs:j!}{k0:Nat}(hl:aq!<5000)(je:∀q∈rs,Sd q.1/\Sd q.2/\q.1≠.non)(hp:Sd p)(hs:Sd s)(R:p_)(hR:∀(a:Nat) y,GP rs s p k0 rs.length a->R (.nx Af_) M):
  ∀(m k a:Nat) (y:am_),aq! - k=m->k<=aq!->GP rs s p k0 k a->Ih gE! aj! GG Ag_ Af_ M R
 |0,k,a,y,hm,hk,ha=>⟨trivial,hR a y (by rw[show rs.length=k by omega];exact ha)⟩
 |m+1,k,a,y,hm,hk,ha=>by
  have c1:k<aq!:=by omega
  refine bg!;show GG ea! M _;have e1:rs[k]?=some rs[k]:=IL c1;obtain⟨q1,q2,q3⟩:=je rs[k] hy_;have ea:f2 Aj N! aA_ ea!=some kV!:=by
   show Cs d9! cb_=_;show"#3";simp[c1]
  have et:f2 Bb u9! u9_ ea!=some (.bl (decide ((fv!).1=s/\(fv!).2=p))):=by
   show(f2 Aj N! aA_ ea!).bind (λz=>Bb z (.tup [s,p]))=_;rw[ea];exact b3t q1 q2 hs hp
  have en:f2 Ap D_ ct! ea!=some (.bl (!Cf s)):=rfl;have cond:Co u8_ va! ea!=some (decide (rs[k]=c9_)):=by
   simp only[Co,fT,en,et,MX];by_cases z:s=.non
   .rw[show Cf s=true from xZ.mpr z];have:¬rs[k]=c9_:=λy=>q3 (by rw[y];exact z);simp[this]
   .rw[lW z];simp only[QG,KA];congr 1;rw[decide_eq_decide];exact⟨λy=>Prod.ext y.1 y.2,λy=>by rw[y];exact aE!⟩
  have es:f2 An aA_ w_ ea!=some pM!:=by
   show pM_;simp[An]
  by_cases z:rs[k]=c9_
  .refine Ah_;exact a8d hl je hp hs R hR m M_ M_ _ a! a! (.inr ⟨k,s_,by rw[e1,z],rfl⟩)
  .refine iS Ai! ?_;refine a8d hl je hp hs R hR m M_ a _ a! a! ?_;obtain⟨J,h2⟩|⟨j,J,h2,h3⟩:=ha
   .refine .inl ⟨J,jQ_⟩;by_cases y:j=k
    .rw[y,e1];exact λx=>z (JX x)
    .exact h2 j a!
   .exact Aj_
def a5t(h:aa!)(je:∀q∈W.rows,Sd q.1/\Sd q.2/\q.1≠.non)(hi:Sd i)(hp:Sd p)(hs:Sd s)(hl:dl_<4000)
  (hR:∀M' aj,Qt W.rows i p s aj->Ca M' w O {W with rows:=aj}->Fr M O M' O->R .non M'):Ip [dm!,i,p,s] M R:=by
 obtain⟨wt,wn,qa,hA⟩:=h;obtain⟨e,et1,et2,L⟩:=hA.L;have hw:=L.cell _ HX;refine n!;show Ah (Am 4 Al_) _ Am! M _;simp only[Ah,Am,Da,Fz,ixw (ρ:=Am!) rfl hw k3r];refine Am_;have sub:∀q∈wo W.rows i,q∈W.rows:=λq hq=>(n0_).1;have lw:(hd!).length<=dl_:=PM _ _;refine dI (λd=>match d with|.tup [a,_]=>!decide (a=i)|_=>false) id trivial _ _ cG! ?_
 .obtain⟨q,hq,rfl⟩:=IU.mp hd;obtain⟨J,_,_⟩:=je q hq;refine⟨pO!,rfl,pO_,λ_ K hK=>hK⟩;have e1:fT nA_ pO!=some An_:=by
   have:f2 Er aE_ w! pO!=some (.bl An_):=by
    show(Ao_).bind (λz=>Er z i)=_;rw[b0w];exact a0a J hi
   show"!t"
  simp only[Dd,e1];exact hK
 have e2:((pJ!).filter λd=>match d with|.tup [a,_]=>!decide (a=i)|_=>false).map id=(hd!).map Bk:=by
  rw[RI,SN];congr 1;apply OC;intro q _;simp[Bk]
 rw[e2];generalize VA:wo W.rows i=rs at *;have yx:∀q∈rs,Sd q.1/\Sd q.2/\q.1≠.non:=λq hq=>je q (sub q hq);refine a4o (M:=M) a! (λq hq=>⟨(yx q hq).1,(yx q hq).2.1⟩) hp _ (λk0 hk0 hc0=>?_) rs.length 0 a! a! (by rw[List.take_zero];rfl);have hr:Fj gH! Ap!=some ((List.range' 0 aq!).map λj=>D.int pA_):=by
  have:f1 Bi gq! Ap!=some kU_:=by
   show Ac_;simp[Bi]
  unfold Fj;rw[this];show(if -1000<=pP_/\pP_<=100000 then some (Cy (pP_).toNat)else none)=_;rw[ap_];simp[Cy,List.range_eq_range']
 simp only[Ec,Ja,hr,Fc];refine a8d (M:=M) a! yx hp hs _ (λa y ha=>?_) rs.length 0 k0 none a! a! Aq!;have oj:a<=aq!:=by
  obtain⟨J,_⟩|⟨j,J,_,h3⟩:=ha<;>omega
 have ev:f2 An vc_ vd! fv_=some kW!:=by
  have s1:Fd N! Aw eV! fv_=some pQ!:=c0b kW_;have s2:Fd N! eV! Aw fv_=some As!:=a5h kW_;have s3:Dr vc! fv_=some pR!:=rfl;have a1:An pQ! pR!=some As_:=by
   show hj!;rw[kX!]
  have a2:An As_ As!=some kW!:=by
   show hj!;rw[kX!];simp
  show((Fd N! Aw eV! _).bind λx=>(Dr _ _).bind λz=>An x z).bind (λx=>(Fd N! eV! Aw _).bind λz=>An x z)=_;rw[s1,s3,s2];show(An pQ! pR!).bind (λx=>An x _)=_;rw[a1];exact a2
 have ou:Jv M bQ_ gG_ kW!=some (mup M w (.dct At! At_)):=by
  rw[iI (k:=some (.inl (.inr "rows"))) hw rfl (by show 3<big;decide),k3p]
 have f0:Aa 0 fv_=some bQ_:=rfl;have fin:=hR _ Aq_ ⟨rs.take a,rs.drop a,by rw[VA,List.take_append_drop],rfl,?_⟩ ⟨wt,wn,qa,⟨_,et1,et2,L.put (u:=[]) (c:=.dct At! At_)⟩,hA.O⟩ (hA.fr aj_)
 .show Bx l! jp! (wl _) fv_ M _;simp only[Bx,wl,ev,f0,fC,ou,Fc];exact fin
 .rw[VA];obtain⟨J,h2⟩|⟨j,J,h2,h3⟩:=ha
  .refine .inl ⟨dh_,by rw[J];exact hc0⟩;obtain⟨j,hj⟩:=NW.mp oF!;exact h2 j (IJ.mp hj).1 hj
  .refine .inr ⟨rs.take j,?_⟩;have hj:j<aq!:=(IJ.mp h2).1;rw[h3,NG hj,(IJ.mp h2).2]
def a8f{rows:j!}(nd:fg_):(rows.filter λq=>decide fw!)=match rows.find? Au! with|some q=>[q]|none=>[]:=by
 induction rows with
 |nil=>rfl
 |cons a r ih=>
  rw[IE,IQ]at nd;by_cases e:a.1=x
  .rw[KD eY_,List.find?_cons_of_pos eY_];have:r.filter Au!=[]:=by
    rw[QV];intro q hq;simp only[JC];exact λz=>nd.1 (by rw[e,<-z];exact IM hq)
   rw[this]
  .rw[KF eY_,List.find?_cons_of_neg eY_,ih nd.2]
def c4u{W:OW}(wi:Ch W)(h:aZ!∈W.rows):pS!=[aZ!]:=by
 rw[a8f wi.rnd];cases e:W.rows.find? λq=>decide fw! with
 |none=>have:=List.find?_eq_none.mp e aZ! h;simp at this
 |some q=>
  have J:=List.find?_some e;have h2:=List.mem_of_find?_eq_some e;simp at J;have:q.2=p:=jQ wi.rnd (by rw[<-J];exact h2) h;obtain⟨a,b⟩:=q;dsimp only at J this ⊢;rw[J,this]
def d0b{W:OW}(wi:Ch W)(h:∀p,aZ!∉W.rows):pS!=[]:=by rw[QV];rintro⟨a,b⟩ hq;simp only[JC];exact λz=>h b n1!
def EW:WS:=Ah vf!
 (Ah vg!
 (Am 1 gy_))
def xU(h:aa!)(wi:Ch W)(hl:dl_<5000)(hi:Hm i){rk:D->Nat}(gu:wM!):∀(n:Nat) (x:D) (y:am_),rk x<n->Ig W x->∀(R':p_),(Wn W.rows i x->∀y',R' (.nx [V!,G_,G_,y']) M)->(¬Wn W.rows i x->R' (.rt ab!) M)->
   ∃m,Di (Dd i1!) EW m fw_ M R'
 |0,x,y,hn,_,_,_,_=>by omega
 |n+1,x,y,hn,hx,R',r1,r2=>by
  obtain⟨wt,wn,qa,hA⟩:=id h;obtain⟨e0,hw⟩:=hA.mw;have sx:=a8a wi hx;have et:fT tq_ fw_=some pS_:=by
   have:f2 Er w! C_ fw_=some (.bl pS_):=a0a sx hi.sd;show"!t"
  by_cases e:x=i
  .subst e;refine e6!;simp only[Di,Dd,et];exact r1 .here y
  .rw[show pS_=true by simp[e]]at et;have body:∀(K:p_),(wO!->K (.rt ab!) M)->(∀p,aZ!∈W.rows->K (.nx [V!,cy!,G_,some pT!]) M)->EW fw_ M K:=λK g1 g2=>by
    show Ah (Am 3 Al_) _ fw_ M _;simp only[Ah,Am,Da,Fz,ixw (ρ:=fw_) rfl hw k3r];refine Am_;refine dI (λd=>match d with|.tup [a,_]=>decide (a=x)|_=>false) (λd=>match d with|.tup [_,p]=>p|_=>.non) trivial _ _ cG! ?_
    .obtain⟨q,hq,rfl⟩:=IU.mp hd;obtain⟨J,_,_⟩:=zL wi q hq;refine⟨kX_,rfl,pO_,λ_ K hK=>?_⟩
     .have e1:fT gJ! kX_=some (decide fw!):=by
       have:f2 Bb aE_ w! kX_=some (.bl (decide fw!)):=by
        show(Ao_).bind (λz=>Bb z x)=_;rw[b0w];exact sR J.sd sx
       show"!t"
      simp only[Dd,e1];exact hK
     .have e1:f2 Aj q! w_ kX_=some q.2:=b0v;exact hK
    .have e2:(((pJ!).filter λd=>match d with|.tup [a,_]=>decide (a=x)|_=>false).map λd=>match d with|.tup [_,p]=>p|_=>.non)=(pS!).map M!:=by
      rw[SN,JU];rfl
     rw[e2];by_cases c:∃p,aZ!∈W.rows
     .obtain⟨p,hp⟩:=c;rw[c4u wi hp];refine iS rfl ?_;have e3:f2 Aj D_ G! [V!,bJ_,G_,some pT!]=some p:=rfl;exact g2 p hp
     .have c':∀p,aZ!∉W.rows:=λp z=>c ⟨p,z⟩;rw[d0b wi c'];refine ifT rfl ?_;exact g1 c'
   obtain hx|hx:=hx
   .obtain⟨p,hp⟩:=a6o wi hx;have q:=a5x wi.rnd hp e;have:=gu _ _ hp;have key:∀y',∃m,Di (Dd i1!) EW m [V!,cy!,G_,y'] M R':=λy'=>xU h wi hl hi gu n p y' a! (wi.rp _ _ hp) R' wP! (λz=>r2 λv=>z (q.mp v));obtain⟨m,hm⟩:=key (some pT!);refine⟨m+1,?_⟩;simp only[Di,Dd,et,KA];exact body _ (λnt=>absurd hp (nt p)) λp' bx=>by rw[jQ wi.rnd bx hp];exact hm
   .have nt:∀p,aZ!∉W.rows:=by
     obtain rfl|rfl:=hx
     .exact lO wi (a9n wi)
     .exact lO wi (c0o wi)
    refine e6!;simp only[Di,Dd,et,KA];exact body _ (λ_=>r2 (b4j nt e)) (λp hp=>absurd hp (nt p))
def c0r(h:aa!)(wi:Ch W)(hl:dl_<5000)(hx:gY!)(hi:Hm i)(hR:∀b:Bool,(b=true↔Wn W.rows i x)->R bl! M):Lx [dm!,x,i] M R:=by obtain⟨rk,gu⟩:=wi.rk;refine n!;exact xU h wi hl hi gu (rk x+1) x none a! hx _ (λz y'=>hR true h6!) (λz=>hR false h6!)
def b0z{neg:Bool}{ep:Nat}(h:bt_)(hk:bM!):Il neg M y z!=some (.bl (if neg then !(hx!).isSome else(hx!).isSome)):=by simp[Il,h,hk]
def c3l(hx:Sd x)(ha:Sd a)(hb:Sd b):Il false M x hB!=some (.bl (decide (x=a\/x=b))):=by
 have d1:=nN ha;have d2:=nN hb;have e:((al!).any λd=>Eh d x)=decide (x=a\/x=b):=by
  simp only[NC,List.any_nil,Bool.or_false,lY ha hx,lY hb hx];by_cases J:a=x<;>by_cases h2:b=x<;>simp[J,h2,JE]<;>first|exact .inl J.symm|exact .inr h2.symm|exact⟨λz=>J z.symm,λz=>h2 z.symm⟩|skip
 show Il.inS false M x hB!=_;show(if Az x&&Bv al!&&decide (Dm al!<=40)then some (D.bl (if false=true then _ else[a,b].any λd=>Eh d x))else none)=_;rw[IB (by simp[eL hx,Bv,eL ha,eL hb,Dm];omega),e];rfl
def d2m{g:bi!}{fx:e_}{fb:WE}(hx:fx ρ=some x)(K:r_):w2 g kY! fb ρ M K=fb ρ M λy M2=>match g M2 x y with|some d=>K d M2|none=>False:=by simp only[w2,wl,hx]<;>rfl
def b4r{W:OW}:(kget cG_ x).isSome=decide e4!:=by rw[jP];by_cases h:x∈W.its<;>simp[h]
def pI{fx:e_}(h:aa!)(h0:eb!)(hx:fx ρ=some x)(hk:dh!)(K:r_):w2 bp! kY! bG! ρ M K=K oe_ M:=by obtain⟨wt,wn,qa,hA⟩:=h;obtain⟨e0,hw⟩:=hA.mw;obtain⟨e1,ht⟩:=hA.mt;have hi:=ixw (M:=M) (ρ:=ρ) (s:="texts") h0 hw k3t;have e:=b0z (neg:=false) ht hk;rw[show(if false=true then _ else(kget cG_ x).isSome)=decide e4! from b4r]at e;rw[d2m hx,hi,e]
def a5s(h:aa!)(wi:Ch W)(hl:dl_<4000)(hi:Sd i)(hx:Sd x)(hs:Sd s)(cu:e6_)(hkx:oj_)
  (hR:∀M' W',(dU_->∃aj,Qt W.rows i x s aj/\W'={W with rows:=aj})->(¬dU_->W'=W)->Ca M' w O W'->Fr M O M' O->R .non M'):Io [dm!,i,x,s] M R:=by
 refine n!;show As (Fp (wT _) (Zh (wT _) (wT _))) _ Bp dm_ M _;have g1:=pI (ρ:=dm_) (fx:=Aa 1) h rfl rfl cu;have g2:=pI (ρ:=dm_) (fx:=Aa 2) h rfl rfl hkx;have g3:∀K:D->Mh->Prop,w2 bp! D! vh! dm_ M K=K (.bl (decide zq!)) M:=λK=>by
  have ul:Aa 2 dm_=some x:=rfl;have:=c3l (M:=M) hx (iE "root") (iE "bin");simp only[w2,wl,ul,fC,this]
 have no:(¬dU_)->R .non M:=λc=>hR M W (λz=>absurd z c) (λ_=>rfl) h .refl;have VB:i∈W.its->Ig W x->As vi_ vj_ Bp dm_ M gZ_:=λc1 c2=>by
  have hc:∀(K:r_),Lx [dm!,x,i] M K->Ao 3 Lx vh_ dm_ M K:=λK h=>cv_;refine hc _ (c0r h wi a! c2 (wi.nm i c1) λb hb=>?_);cases b with
  |true=>exact no λz=>z.2.2 (hb.mp rfl)
  |false=>
   have nw:¬Wn W.rows i x:=λz=>by have:=hb.mpr z;cases this
   have ii:∀(K:r_),Ip [dm!,i,x,s] M K->Ao 4 Ip nD_ dm_ M K:=λK h=>cv_;simp only[QG,KA];refine gK (ii _ (a5t h dV! hi hx hs hl λM' aj hg hL hF=>?_))
   .obtain⟨J,h2,_⟩:=zL wi q hq;exact⟨J.sd,h2,J.nn.1⟩
   .exact hR M' _ (λ_=>⟨aj,hg,rfl⟩) (λz=>absurd ⟨c1,c2,nw⟩ z) hL hF
 simp only[As,Fp,Zh,wT,g1];show"!v"
 .rw[IY c1];simp only[KA,g2];by_cases c2:x∈W.its
  .rw[IY c2];exact VB c1 (.inl c2)
  .rw[IG c2];simp only[JB,JT,g3];by_cases c3:x=root\/x=Db
   .rw[IY c3];exact VB c1 (.inr c3)
   .rw[IG c3];exact no λz=>z.2.1.elim c2 c3
 .rw[IG c1];exact no λz=>c1 z.1
end
def Wy:WS:=(Ah vl!
 (Ah vl_
 (Ah vm!
 vm_)))
def Wx:WS:=vp_
def CV:WS:=vs_
def Sf:WS:=(Ah js!
 (Ah (Am 6 aO!)
 (Ah AA_
 (Ah (Am 8 nH!)
 vw!))))
def Wz:WS:=(Ah (Am 9 nI!)
 (Ah js!
 vz!))
abbrev knd(k:Str):Ad->Option Bool:=fT (f2 Bb bq! (fC P!))
abbrev Tk:WT:=wT gJ_
def c1o:Wt=Ah nE! (Ah nE_
 (As AB! Wy (As AB_ nG! (As AC! nG_
  (As AC_ Wx AD_))))):=rfl
section
variable{M:Mh}{R:D->Mh->Prop}{w:xz!}{O:Addr->Prop}{W:OW}{ρ:Ad}{pre:List D}
def b8f(h:pU!):knd k' ρ=some kv!:=by
 have e:Aj cD! F_=some P!:=by
  show o8!;show"#3";simp
 have:f2 Bb bq! (fC o7_) ρ=some (.bl kv!):=by
  show((kY_).bind λx=>Aj x F_).bind (λx=>Bb x o7_)=_;rw[h];show(Aj cD! F_).bind _=_;rw[e];exact gB k k'
 unfold knd fT;rw[this];rfl
def p1(h:AE!):f2 Aj C_ w_ ρ=some a:=by show(kY_).bind (λx=>Aj x a9!)=_;rw[h];exact ix1
def p2(h:Aa 2 ρ=some o9_):f2 Aj C_ aM_ ρ=some b:=by show(kY_).bind (λx=>Aj x bB!)=_;rw[h];exact ix2
def p3(h:Aa 2 ρ=some pa!):f2 Aj C_ az_ ρ=some c:=by show(kY_).bind (λx=>Aj x bo!)=_;rw[h];exact ix3
def anF{ft:W_}{fu:WT}{q1 q2:WS}{R:p_}(h:yS!)(k:hn_):As AE_ q1 q2 ρ M R:=by simp only[As,Fp,Dd,h];exact k
def anT{ft:W_}{fu:WT}{q1 q2:WS}{R:p_}{b:Bool}(h:yR_)(hu:∀K:Bool->Mh->Prop,K b M->fu ρ M K)(k1:AF_)(k2:AF!):As AE_ q1 q2 ρ M R:=by
 simp only[As,Fp,Dd,h,KA];refine hu _ ?_;cases b with
 |true=>rw[A!];exact k1 rfl
 |false=>rw[T_];exact k2 rfl
def a1g(h:aa!)(h0:eb!)(h2:AE!)(hk:dd_)(K:d2!)(hK:K (decide (a∈W.its)) M):Tk ρ M K:=by unfold Tk wT;rw[pI h h0 (p1 h2) hk];exact hK
def Cb.sd(h:Cb x):Sd x:=by
 obtain rfl|rfl|⟨a,b,rfl,_⟩:=h
 .exact iE _
 .exact iE _
 .exact .inr og!
def Md.sd(h:Md x):Sd x:=by
 obtain rfl|⟨a,b,rfl,_⟩:=h
 .exact cM_
 .exact .inr og!
def Ki.sd(h:Ki x):Sd x:=by
 obtain rfl|⟨a,b,c,rfl,_⟩:=h
 .exact cM_
 .exact .inr wI_
def Me.tx{qa:kS_}(h:d8_)(h0:eb!):Pu bG! ρ M ft_:=by obtain⟨e,hw⟩:=h.mw;exact eS (aT h0) aC_ ((AG_).trans k3t)
def Me.nb{qa:kS_}(h:d8_)(h0:eb!):Pu nF_ ρ M d8!:=by obtain⟨e,hw⟩:=h.mw;exact eS (aT h0) aC_ ((AH_).trans k3n)
def b9t{p v:Int}{R:p_}(h:aa!)(wi:Ch W)(ha:e1!)(hk:dd_)(h0:eb!)(h2:Aa 2 ρ=some kr!)(p0:0<=p)(p3':p<=3)
  (hR:∀M',Ca M' w O (Wh W a o4!)->Fr M O M' O->R ad_ M'):Wx ρ M R:=by
 obtain⟨wt,wn,qa,hA⟩:=h;obtain⟨e0,e1,e2,L⟩:=hA.L;obtain⟨e,hn⟩:=hA.mn;have hx:Du (kr_).length p=some p.toNat:=by
  rw[wi.nl a ha];unfold Du;rw[IB p0,ap_]
 refine c1p (aT (p3 h2)) (eS (hA.nb h0) (aT (p1 h2)) ((fA hn hk).trans AI!)) (aT (p2 h2)) (hA.mq ha).1 hx ?_;refine hR _ ⟨wt,wn,qa,⟨e0,e1,e2,?_⟩,hA.O⟩ (hA.fr (.inr (.inr (.inr ⟨a,ha,rfl⟩))));obtain⟨u,v',ei,hu⟩:=jH ha;have nd:=wi.nd;rw[ei,JL,IQ]at nd;have e1:∀l:List D,a∉l->(l.map λi=>pU_)=l.map λi=>ec!:=λl hl=>LC λi hi=>by rw[IF λz:i=a=>hl (z▸hi)]
 unfold DB at L ⊢;show HL _ _ (_::_::_::W.its.map λi=>pU_);have ei':(W.its.map λi=>pU_)=AJ!++(qa a,.lst o4!)::v'.map λi=>ec!:=by
  rw[ei,IZ,IE,e1 u hu,e1 v' nd.2.1.1,A!]
 have ej:AJ_=AJ!++(qa a,.lst kr_)::v'.map λi=>ec!:=by rw[ei,IZ,IE]
 rw[ej]at L;rw[ei'];exact L.put (u:=_::_::_::u.map λi=>ec!)
def c4x{fx:e_}(h:aa!)(h0:eb!)(hx:fx ρ=some a)(hk:dd_)(ha:e1!):Pu (w2 Ce bG! kY!) ρ M pW!:=by obtain⟨wt,wn,qa,hA⟩:=h;obtain⟨e1,ht⟩:=hA.mt;exact eS (hA.tx h0) (aT hx) ((fA ht hk).trans AI!)
def c6g{q:e0_}:Aj (Cv q) F_=some q.1:=by simp[Cv,Aj,Cs,Du]
def d2o{q:e0_}:Aj (Cv q) a9!=some q.2.1:=by simp[Cv,Aj,Cs,Du]
def d2n{q:e0_}:Aj (Cv q) bB!=some (.bl q.2.2):=by simp[Cv,Aj,Cs,Du]
def c3m{neg:Bool}(hx:Sd x)(hl:∀d∈l,Sd d):Il neg M x (.lst l)=some (.bl (if neg then !decide (x∈l)else decide (x∈l))):=by
 have e:AK!=decide (x∈l):=by
  rw[LR,List.any_eq_true,JC];show"#1"
  .rintro⟨d,hd,he⟩;rw[lY (hl d hd) hx,JC]at he;rw[<-he];exact hd
  .intro h;exact⟨x,h,by rw[lY hx hx];simp⟩
 have n:∀l:List D,(∀d∈l,Sd d)->Bv l=true/\Dm l<=5:=λl=>by
  induction l with
  |nil=>intro _;simp[Bv,Dm]
  |cons a r ih=>
   intro h;obtain⟨i1,i2⟩:=ih λd hd=>h d (HS _ hd)
   have J:=eL (h a HX);have h2:=nN (h a HX);refine⟨by simp[Bv,J,i1],by simp[Dm];omega⟩
 obtain⟨n1,n2⟩:=n l hl;show Il.inS neg M x (.lst l)=_;show(if Az x&&Bv l&&decide (Dm l<=40)then some (D.bl (if neg=true then ! AK! else l.any λd=>Eh d x))else none)=_;rw[IB (by rw[eL hx,n1];simp;omega),e]
def b5m{fx:e_}{fv:WE}{l:ai!}{R:p_}(h:aa!)(nd:W.its.Nodup)(hB:hE_<5000)(h0:eb!)(hx:fx ρ=some a)(hk:dd_)(ha:e1!)(hv:Pu fv ρ M k0!)
  (hR:∀M',Ca M' w O n5!->Fr M O M' O->R ad_ M'):Bx bG! kY! fv ρ M R:=by
 obtain⟨wt,wn,qa,hA⟩:=h;obtain⟨e0,e1,e2,L⟩:=hA.L;refine b5o hv (hA.tx h0) (aT hx) AL_ hk ec_ (hR _ ⟨wt,wn,qa,⟨e0,Hc cG_ a e1,e2,?_⟩,hA.O⟩ (hA.fr fu_));have:=L.put (u:=[_]) (c:=.dct (Bg cG_ a k0!) (Hc cG_ a e1));rw[a3w nd ha]at this ⊢;have e:(W.its.map λi=>(i,if i=a then D.lst pW_ else D.lst kT!))=W.its.map λi=>(i,D.lst (((n5!).txt i).map Cv)):=LC λi _=>by
  show _=(i,D.lst ((if i=a then l else W.txt i).map Cv));split<;>rfl
 rw[e]at this ⊢;exact this
def zM{f:e_}{n:Nat}(h:f ρ=some (.int (n:Nat)))(hn:n<=100000):Fj f ρ=some ((n6_).map λi=>D.int k0_):=by unfold Fj;rw[h];show(if -1000<=pX!/\pX!<=100000 then some (Cy (pX!).toNat)else none)=_;rw[ap_];simp[Cy]
def b9v{g4 r5 r6 r7 r8:D}{x y z m:Int}{R:p_}(h:aa!)(wi:Ch W)(hB:hE_<5000)(ht:AM_)(ha:e1!)(hk:dd_)(m1:1<=m)(ZF:m<=16)
  (hR:∀M' ρ',Ca M' w O (setT W a (cutT or_ av_))->Fr M O M' O->R bP! M'):
  Wz AN_ M R:=by
 have hm:((m.toNat:Nat):Int)=m:=by omega
 have VC:Aj fh! bB!=some e9!:=ix2;have hc:Pu nI! AN_ M (.lst or_):=λK hK=>by
  unfold Da Ja;rw[zM (n:=m.toNat) (by rw[hm];exact p3 rfl) a!];refine iJ ⟨by simp[big];omega,dI fz! (λd=>match d with|.int k=>.tup [g4!,g3_,.int (z+k)]|_=>.non) trivial _ _ cG! (by rw[hF!,JU];exact hK)⟩;obtain⟨k,cz,rfl⟩:=IU.mp hd;exact⟨[some pX_,some fh!],rfl,hF_,λ_=>aT (bS (x:=.tup oq!) (y:=.tup [.int (z+cb_)]) (by unfold Fd;rw[bS rfl rfl VC];rfl) (yY (bL (bS (bS (bS rfl rfl VC) rfl rfl) rfl rfl) rfl) rfl) rfl)⟩
 refine eP hc ?_;generalize hg:(or!).map (λk=>D.tup j2!)=mf at hR;have xz:∀d∈mf,Sd d:=λd hd=>by
  rw[<-hg]at hd;obtain⟨k,_,rfl⟩:=IU.mp hd;exact .inr (.inr (.inr ⟨[x,y,z+(k:Nat)],rfl⟩))
 refine eP (c4x h rfl fz_ hk ha) (b5m (l:=cutT mf av_) h wi.nd hB rfl fz_ hk ha (λK hK=>?_) λM' g1 g2=>hR M' _ g1 g2);show _/\Qn _ _ _ _ [none,AP!] kZ_ M _;refine⟨by simp[big];omega,dI fz! (λd=>match d with|.tup [s,c,.bl b]=>Cv (s,c,b&&!decide (s∈mf))|_=>.non) trivial _ _ cG! ?_⟩
 .obtain⟨q,hq,rfl⟩:=IU.mp hd;refine⟨[some (Cv q),AP!],rfl,hF_,λ_=>c1q AP_ (aT (bS rfl rfl d2o)) (a9s (b:=q.2.2) (aT (bS rfl rfl d2n)) pY_ λe=>by rw[e];rfl)⟩;rw[e];exact eS AP_ (aT (d:=.lst mf) rfl) (c3m (AQ!).sd xz)
 .rw[hF!,JU];unfold cutT at hK;rw[JU]at hK;exact hK
def DV(l:ai!)(b:D)(k a:Nat):Prop:=(a=0/\∀j<k,AQ_≠some b)\/∃j<k,AQ_=some b/\a=j+1
def a5w{o4:D}{l:ai!}(hl:aC!<5000)(hs:∀q∈l,Sd q.1)(hb:Sd b)(R:p_)(hR:∀(a:Nat) y,DV l b l.length a->R (.nx AR_) M):
  ∀(m k a:Nat) (y:am_),aC! - k=m->k<=aC!->DV l b k a->Ih (Cq 7) aj! CV Ag_ AR_ M R
 |0,k,a,y,hm,hk,ha=>⟨trivial,hR a y (by rw[show l.length=k by omega];exact ha)⟩
 |m+1,k,a,y,hm,hk,ha=>by
  have c1:k<aC!:=by omega
  refine bg!;show CV pZ! M _;have e1:l[k]?=some l[k]:=IL c1;have ea:Cs pW_ cb_=some (Cv l[k]):=by
   show"#3";simp[c1]
  have cond:fT vr_ pZ!=some (decide ((l[k]).1=b)):=by
   unfold fT;rw[bS (bS (bS rfl rfl ea) rfl c6g) (p2 rfl) (sR (hs _ hy_) hb)];rfl
  have es:f2 An bZ_ w_ pZ!=some pM!:=by
   show pM_;simp[An]
  by_cases z:(l[k]).1=b
  .refine Ah_;exact a5w (o4:=o4) hl hs hb R hR m M_ M_ _ a! a! (.inr ⟨k,s_,by rw[e1];exact congrArg some z,rfl⟩)
  .refine iS Ai! ?_;refine a5w (o4:=o4) hl hs hb R hR m M_ a _ a! a! ?_;obtain⟨J,h2⟩|⟨j,J,h2,h3⟩:=ha
   .refine .inl ⟨J,jQ_⟩;by_cases y:j=k
    .rw[y,e1];exact λx=>z (JX x)
    .exact h2 j a!
   .exact Aj_
def DV.wr{l:ai!}{a:Nat}(h:DV l b l.length a)(nd:nQ_):wrT b nw l=l.take a++nw++l.drop a/\a<=aC!:=by
 obtain⟨rfl,h2⟩|⟨j,J,h2,rfl⟩:=h
 .have nb:b∉l.map c_:=λz=>by
   obtain⟨j,hj⟩:=NW.mp z;rw[JN]at hj;have:j<aC!:=by
    cases e:l[j]? with
    |none=>rw[e]at hj;cases hj
    |some q=>exact(IJ.mp e).1
   exact h2 j this hj
  unfold wrT;rw[IF nb];simp
 .have hj:l[j]?=some l[j]:=IL J;rw[hj]at h2;have hb:(ca_).1=b:=JX h2;have e:l=l.take j++l[j]::l.drop bS_:=by rw[<-ND J,List.take_append_drop]
  have nb:b∉(l.take j).map c_:=λz=>by
   rw[e]at nd;simp only[IZ,IE]at nd;rw[JL]at nd;exact nd.2.2 _ z _ b_ hb.symm
  have yw:b∈l.map c_:=by rw[<-hb];exact IM (LG J)
  refine⟨?_,s_⟩;unfold wrT;rw[IB yw]
  conv=>lhs;rw[e]
  rw[vF hb nb,NG J];simp only[KL,LY,KP]
def b1y(h n:Int)(s:Str):s.cps.toList.zipIdx.map dX!=(List.range au_).map λk=>(D.tup o5!,D.str AT!,true):=by
 apply RY;intro i;rw[JN,JN,List.getElem?_zipIdx];by_cases c:i<g8_
 .have c':i<au_:=by simpa[Str.length]using c
  rw[IL c,List.getElem?_range c'];simp[sgn,List.getD,IL c];simp at c;simp[c]
 .have c':¬i<au_:=by simpa[Str.length]using c
  rw[KJ a!,KJ a4!];rfl
def a8j{h n:Int}{s:Str}{R:p_}(hL:aa!)(wi:Ch W)(hB:hE_<5000)(ht:AM_)(ha:e1!)(hk:dd_)(hb:Sd b)(ZR:j5!)
  (hR:∀M' ρ',Ca M' w O (setT W a (wrT b g7_ av_))->Fr M O M' O->R bP! M'):
  Sf [V!,Z_,k2_,b5_,y4,none,none,none,none,none] M R:=by
 refine eP (c4x hL rfl fz_ hk ha) (eP hG! ?_);show Ah AA_ _ AT_ M _;have er:Fj vq! AT_=some ((List.range (av_).length).map λi=>D.int k0_):=zM (by
  show Bi [.lst kZ_]=_;simp[Bi]) a!
 unfold Ah Ec Ja;rw[er,List.range_eq_range'];refine a5w (M:=M) (o4:=.non) ht (λq hq=>(AQ!).sd) hb _ (λat_ y yz=>?_) (av_).length 0 0 none a! a! Aq!;obtain⟨ew,oj⟩:=yz.wr (nw:=s.cps.toList.zipIdx.map dX!) (wi.snd a ha);have hnl:(g7_).length=au_:=by simp[Str.length]
 have hc:Pu nH! [V!,Z_,k2_,b5_,y4,some pW!,some (.int (at_:Nat)),y,none,none] M (.lst ((g7_).map Cv)):=λK hK=>by
  unfold Da Ja;rw[zM (n:=s.length) (by show Bi [dX_]=_;simp[Bi,big];omega) a!];refine iJ ⟨by simp[big];omega,dI fz! (λd=>match d with|.int k=>Cv (.tup yH_,.str ⟨#[s.cps.toList.getD k.toNat 0]⟩,true)|_=>.non) trivial _ _ cG! (by rw[b1y,JU]at hK;rw[hF!,JU];exact hK)⟩;obtain⟨k,cz,rfl⟩:=IU.mp hd;have hk2:=PF.mp cz;have hc:k<g8_:=by simpa[Str.length]using hk2
  have e3:Aj aS! pX_=some (.str AT!):=by
   show(if au_<=big then(Cs s.cps.toList cb_).map _ else none)=_;rw[df_];show"#3";rw[ap_,ap_];simp only[MX,NK];rw[IL hc,OH,IL hc];rfl
  exact⟨[some pX_,k2_,b5_],rfl,hF_,λ_=>aT (yY (bL rfl (bL (bS (bS rfl rfl ix3) rfl e3) fl_)) rfl)⟩
 refine eP hc ?_;generalize s.cps.toList.zipIdx.map dX!=nw at *;refine b5m (l:=wrT b nw av_) hL wi.nd hB rfl fz_ hk ha (aT (bS (x:=.lst ((kZ_).take at_++nw.map Cv)) (bS (c0b (xs:=(av_).map Cv) (k:=at_) kW_) rfl ?_) (a5h (xs:=(av_).map Cv) (k:=at_) kW_) ?_)) λM' g1 g2=>hR M' _ g1 g2
 .show hj!;rw[kX!]
 .show hj!;rw[kX!,ew];simp
end
def HL.perm{M0 M:Mh}{l l':kG!}(h:pn_)(p:l.Perm l'):HL M0 M l':=⟨λq hq=>h.cell q AV!,(p.map _).nodup_iff.mp h.nd,λq hq=>h.fr q AV!,h.kp⟩
section
variable{M:Mh}{R:D->Mh->Prop}{w:xz!}{O:Addr->Prop}{W:OW}{ρ:Ad}{pre:List D}
def a5m{g:WF}{f1 f2 f3 f4:e_}{K:r_}(J:dY_)(h2:fb_)(h3:kv_)(h4:f4 ρ=some d)(k:g [a,b,c,d] M K):Ao 4 g pb! ρ M K:=by unfold Ao Ab Af;rw[cF J,dn_,cF h3,cF h4];exact do!
def b9u{h n:Int}{R:p_}(hL:aa!)(wi:Ch W)(hB:hE_<4000)(hl:dl_<3900)(hn:AV_)(ha:Sd a)(hk:dd_)(hb:Sd b)
  (hR:∀M' ρ' O' aj,Qt W.rows ao! fd_ b aj->Ca M' w O' (Jh W ao! aj)->Fr M O M' O'->R bP! M'):
  Wy [V!,Z_,some fg!,b5_,none,none,none,none,none,none] M R:=by
 obtain⟨wt,wn,qa,hA⟩:=id hL;obtain⟨e0,e1,e2,L⟩:=hA.L;have fw:Df ao!=some (some (.inr [.inl h,.inl n])):=rfl;refine eP (d:=.bl (decide AW!)) (c6p (b:=decide (a∈W.its)) (λK hK=>by rw[pI hL rfl fz_ hk];exact hK) (λe=>aT (bS fz_ rfl ((sR ha (iE _)).trans (by simp[MZ e])))) λe=>IY (.inl (KC e))) ?_;generalize hg:decide AW!=g;unfold Ah;have kt:=xV (g:=λi=>D.lst kT!) (v:=hG_) hn;refine b5o p0! (hA.tx rfl) (aT (d:=g8!) rfl) AL_ fw ec_ ?_;have L1:=L.put (u:=[_]) (c:=.dct AX_ AY!);refine⟨by show 4<=1000;decide,d5_⟩;have L2:=L1.new (c:=.lst fc_) hq;have hw2:=L2.cell (w,_) hA_;have g6:=L2.cell (wn,_) (HS _ pK!);refine eS p0_ AZ! ((fA (k:=AH!) hw2 rfl).trans k3n) _ (aT (d:=g8!) rfl _ ?_);rw[iI g6 fw ec_];have L3:=L2.put (u:=[_,_,_]) (c:=.dct AZ_ A0!);refine iJ ?_;show Bq _ [V!,Z_,some fg!,b5_,some (.bl g),none,none,none,none,none] (mup (mup (mup M wt _) q _) wn _) R;generalize hM3:mup (mup (mup M wt (.dct AX_ AY!)) q (.lst fc_)) wn (.dct AZ_ A0!)=M3 at L3 ⊢;have qM:M q=none:=by
  by_cases z:q=wt
  .rw[z,mup_same]at hq;cases hq
  .rw[mup_ne z]at hq;exact hq
 have ni:∀i∈W.its,i≠.tup bK!:=λi hi z=>hn (z▸hi)
 let d7:D->Addr:=λi=>if i=.tup bK! then q else qa i
 have be:∀i∈W.its,d7 i=qa i:=λi hi=>IF p1_;have vx:d7 ao!=q:=IB rfl;have rg:Me M3 w A0_ p2! wt wn d7:=by
  refine⟨⟨e0,Hc cG_ ao! e1,Hc k3_ ao! e2,?_⟩,λb=>?_⟩
  .rw[kt,xV hn]at L3;refine L3.perm ?_;have m1:(hH!).map (λi=>(i,D.lst (((p2!).txt i).map Cv)))=cG_++[(.tup bK!,.lst [])]:=by
    rw[IZ];congr 1
    .exact LC λi hi=>by show(i,D.lst ((if i=_ then[]else W.txt i).map Cv))=_;rw[IF p1_]
    .show[(_,D.lst ((if _=_ then[]else _).map Cv))]=_;rw[A!];rfl
   have m2:(hH!).map (λi=>(i,D.fn (d7 i)))=k3_++[(.tup bK!,.fn q)]:=by
    rw[IZ];congr 1
    .exact LC λi hi=>by rw[be i hi]
    .show[(_,D.fn (d7 _))]=_;rw[vx]
   have m3:(hH!).map (λi=>(d7 i,Cw.lst ((p2!).num i)))=AJ_++[(q,.lst fc_)]:=by
    rw[IZ];congr 1
    .exact LC λi hi=>by show(d7 i,Cw.lst (if i=_ then _ else W.num i))=_;rw[be i hi,IF p1_]
    .show[(d7 _,Cw.lst (if _=_ then _ else _))]=_;rw[vx,A!]
   show List.Perm _ (_::A2!::A2!::(hH!).map _);rw[m1,m2,m3];exact(List.perm_append_singleton (q,Cw.lst fc_) (_::_::_::W.its.map λi=>ec!)).symm
  .show(O b\/b=q)↔_\/_\/_\/∃i∈W.its++[D.tup bK!],d7 i=b;rw[hA.O,or_assoc,or_assoc,or_assoc];refine PD (PD (PD ⟨dh_,λ⟨i,hi,e⟩=>?_⟩))
   .obtain⟨i,hi,e⟩|z:=z
    .exact⟨i,IT _ hi,(be i hi).trans e⟩
    .exact⟨_,HZ _ oJ!,vx.trans z.symm⟩
   .obtain z|z:=II.mp hi
    .exact .inl ⟨i,z,(be i z).symm.trans e⟩
    .rw[ef!,vx]at e;exact .inr e.symm
 have F1:Fr M O M3 A0_:=λc hc hr=>by
  have cq:c≠q:=dP hc qM;refine⟨?_,λz=>z.elim hr cq⟩;rw[<-hM3,mup_ne λz=>hr (by rw[z];exact(hA.O wn).mpr (.inr fu_)),mup_ne cq,mup_ne λz=>hr (by rw[z];exact(hA.O wt).mpr fu_)]
 refine gK (a5m (a:=dm!) (b:=g8!) (c:=if Ig W a then a else Db) (d:=b) rfl rfl ?_ (p2 rfl) (a5t ⟨wt,wn,d7,rg⟩ dV! (.inr (.inr (.inr ⟨[h,n],rfl⟩))) (by split;exact ha;exact iE _) hb (by show dl_<_;omega) λM' aj sk c7 hF'=>hR M' _ _ aj sk c7 (F1.trans hF')))
 .unfold Mw;rw[show fT N! _=some g from rfl,p1 (k:="put") (a:=a) (r:=[b]) rfl];show(if g=true then some a else some Db)=_;rw[<-hg];by_cases c:a∈W.its\/a=root
  .rw[IB (IY c),IB (c.elim .inl λz=>.inr (.inl z))]
  .rw[IF λz=>c (KC z)];by_cases c2:Ig W a
   .rw[IB c2,c2.resolve_left (λz=>c (.inl z)) |>.resolve_left λz=>c gG!]
   .rw[IF c2]
 .obtain⟨z1,z2,_⟩:=zL wi q hq;exact⟨z1.sd,z2,z1.nn.1⟩
end
structure Sn(W:OW)(B:Nat):Prop where
 rows:dl_<=B
 its:hE_<=B
 txt:∀x,(da!).length<=B
def Qt.len{rows aj:j!}(h:gV!):aj.length<=rows.length+1:=by
 obtain⟨u,v,e1,e2,_⟩:=h;have J:(dS!).length<=rows.length:=by unfold wo;exact PM _ _
 rw[e1,JA]at J;rw[e2,JA,IH];omega
def Sn.stp{W:OW}{B:Nat}(l:cH_)(h:Sl W n d W'):Sn W' bt!:=by
 have l1:=l.rows;have l2:=l.its;have l3:=l.txt;have same:Sn W bt!:=⟨s_,s_,λx=>by have:=l3 x;omega⟩;cases h with
 |put _ _ hg=>
  have:=hg.len;refine⟨by show _<=_;unfold Jh;simp only;omega,by unfold Jh;simp only[JA,LQ];omega,jI_⟩;unfold Jh;simp only;split
  .simp
  .have:=l3 x;omega
 |mvY _ _ _ _ hg=>
  have:=hg.len;exact A4!
 |mvN=>exact same
 |drY _ _ hg=>
  have:=hg.len;exact A4!
 |drN=>exact same
 |@wrt a b s h m _ _ hs e=>
  split
  .refine A4_;unfold setT;simp only;split
   .obtain⟨u,v,e1,e2,_⟩:=pT b hk_ av_;have:=l3 a;rw[e1,JA]at this;rw[e2];have cm:g8_<=16:=hs;simp only[JA,IP,RP];omega
   .have:=l3 x;omega
  .exact same
 |cut=>
  split
  .refine A4_;unfold setT;simp only;split
   .unfold cutT;rw[IP];exact same.txt _
   .exact same.txt x
  .exact same
 |set=>
  split
  .exact⟨same.rows,same.its,same.txt⟩
  .exact same
section
variable{M:Mh}{R:D->Mh->Prop}{w:xz!}{O:Addr->Prop}{W:OW}{ρ:Ad}{pre:List D}
def fJ{i:Nat}{f:e_}{q:WS}{R:p_}(h:cs_)(k:q bG_ M R):Ah (Am i (wl f)) q ρ M R:=by unfold Ah Am;rw[cF h];exact k
def kT(h:pU!)(e:(k==k)=true):knd k ρ=some true:=by rw[b8f h,e]
def kF(h:pU!)(e:kv!=false):knd k' ρ=some false:=by rw[b8f h,e]
def GR:WS:=As AC_ Wx AD_
def GS:WS:=As AB_ nG! (As AC! nG_ GR)
def Yo:WS:=As AB! Wy GS
def c1n:Wt=Ah nE! (Ah nE_ Yo):=c1o
def Sg(w:xz!)(x0 d nm:D):Ad:=[V!,Z_,fp!,k1!,none,none,none,none,none,none]
def dv0:Aa 0 A5!=some bQ_:=rfl
def mX:Aa 2 A5!=some d:=rfl
def Ze(W:OW)(M:Mh)(w:xz!)(O:aQ!)(n d:D)(R:p_):Prop:=∀M' O' W' ρ',Sl W n d W'->Ca M' w O' W'->Fr M O M' O'->R bP! M'
def c8y{h n:Int}{B:Nat}{R:p_}(hL:aa!)(wi:Ch W)(bo:cH_)(hB:ee!)(hn:AV_)(ha:Cb a)(hb:Md b)
  (hR:Ze W M w O ao! fg! R):Yo (Sg w x0 fg! ao!) M R:=by
 show"!2";have l1:=bo.rows;have l2:=bo.its;refine ifT (kT mX b8h) ?_;exact b9u hL wi a! a! hn ha.sd bp hb.sd λM' ρ' O' aj hg c7 hF=>hR M' O' _ ρ' (.put ha hb hg) c7 hF
def c3z{B:Nat}{R:p_}(hL:aa!)(wi:Ch W)(bo:cH_)(hB:ee!)(ha:Cb a)(hb:Cb b)(hc:Md c)
  (hR:Ze W M w O nm hf! R):Yo (Sg w x0 hf! nm) M R:=by
 show"!2";obtain⟨kb,kg⟩:=cD hb;have l1:=bo.rows;refine iS ax! ?_;refine ifT (kT mX a0x) ?_;refine gK (a5m dv0 (p1 mX) (p2 mX) (p3 mX) ?_);refine a5s hL wi a! ha.sd hb.sd hc.sd bp kg λM' W' J h2 c7 hF=>?_;by_cases g:a∈W.its/\Ig W b/\¬Wn W.rows a b
 .obtain⟨aj,hg,e⟩:=J g;rw[e]at c7;exact hR M' O _ _ (.mvY ha hb hc g hg) c7 hF
 .rw[h2 g]at c7;exact hR M' O _ _ (.mvN ha hb hc g) c7 hF
def c4a{B:Nat}{R:p_}(hL:aa!)(wi:Ch W)(bo:cH_)(hB:ee!)(ha:Cb a)
  (hR:Ze W M w O nm hf_ R):Yo (Sg w x0 hf_ nm) M R:=by
 show"!2";have l1:=bo.rows;show"!4";refine ifT (kT mX a0y) ?_;refine gK (a5m (c:=Db) (d:=.non) dv0 (p1 mX) rfl rfl ?_);refine a5s (kx:=pc!) hL wi a! ha.sd (iE _) aj_ bp rfl λM' W' J h2 c7 hF=>?_;by_cases g:a∈W.its/\Ig W Db/\¬Wn W.rows a Db
 .obtain⟨aj,hg,e⟩:=J g;rw[e]at c7;exact hR M' O _ _ (.drY ha g hg) c7 hF
 .rw[h2 g]at c7;exact hR M' O _ _ (.drN ha g) c7 hF
def c8x{p v:Int}{B:Nat}{R:p_}(hL:aa!)(wi:Ch W)(bo:cH_)(hB:ee!)(ha:Cb a)(h0:0<=p)(h3:p<=3)
  (hR:Ze W M w O nm kr! R):Yo (Sg w x0 kr! nm) M R:=by
 show"!2";have st:=Sl.set (W:=W) (n:=nm) (v:=v) ha h0 h3;show"!4";refine iS ax! ?_;refine anT (kT mX b8g) p4_ dp! dp!
 .show"#9";exact b9t hL wi c' bp dv0 mX h0 h3 λM' c7 hF=>hR M' O _ _ st c7 hF
 .show"#8";show"#'";show"#'";show"#:"
def b9s{h n:Int}{s:Str}{B:Nat}{R:p_}(hL:aa!)(wi:Ch W)(bo:cH_)(hB:ee!)(ha:Cb a)(hb:Ki b)(hs:j5!)
  (hR:Ze W M w O ao! hg! R):Yo (Sg w x0 hg! ao!) M R:=by
 show"!2";have l2:=bo.its;have l3:=bo.txt a;have st:=Sl.wrt (W:=W) (n:=g8!) ha hb hs rfl;show"!4";refine iS ax! ?_;show"#'";refine anT (kT mX a3z) p4_ dp! dp!
 .show"#9";exact a8j hL wi a! a! c' bp hb.sd hs λM' ρ' c7 hF=>hR M' O _ _ st c7 hF
 .show"#8";show"#'";show"#:"
def c8z{x y z m:Int}{B:Nat}{R:p_}(hL:aa!)(wi:Ch W)(bo:cH_)(hB:ee!)(ha:Cb a)(h0:0<=z)(J:1<=m)(h2:z+m<=16)
  (hR:Ze W M w O nm fh! R):Yo (Sg w x0 fh! nm) M R:=by
 show"!2";have l2:=bo.its;have l3:=bo.txt a;have st:=Sl.cut (W:=W) (n:=nm) (x:=x) (y:=y) ha h0 J h2;show"!4";refine iS ax! ?_;show"#'";show"#'";refine anT (kT mX b8i) p4_ dp! dp!
 .show"#9";exact b9v (g4:=nm) (r5:=nm) (r6:=nm) (r7:=nm) (r8:=nm) hL wi a! a! c' bp J a! λM' ρ' c7 hF=>hR M' O _ _ st c7 hF
 .show"#8";show"#:"
def c7d(o:Op):Aj o.v bo!=some o.d:=by simp[Op.v,Aj,Cs,Du]
def lG(o:Op):Aj o.v F_=some cb!:=by simp[Op.v,Aj,Cs,Du]
def uC(o:Op):Aj o.v a9!=some (.int o.n):=by simp[Op.v,Aj,Cs,Du]
def c5r{f g:e_}(J:f ρ=some a)(h2:g ρ=some b):Au (Ac f (Ac g Ag)) ρ=some hB!:=by simp[Au,Ac,Ag,J,h2]
def d0d{o:Op}{B:Nat}(hL:aa!)(hw:Vt W pre)(hn:o.nm∉pre)(hd:DG o.d)(hu:Fe o.d=none)(bo:cH_)(hB:ee!)
  (hR:∀M' O' W',Sl W o.nm o.d W'->Ca M' w O' W'->Fr M O M' O'->R .non M'):Vf [dm!,o.v] M R:=by
 refine n!;rw[c1n];have e3:f2 Aj w! az_ A6_=some o.d:=c7d o;refine fJ (ρ:=A6_) e3 ?_;have e0:Au vk_ A7!=some o.nm:=c5r hI! (uC o);refine fJ (ρ:=A7!) e0 ?_;generalize hK:xO!=K;have j9:Ze W M w O o.nm o.d K:=λM' O' W' ρ' J h2 h3=>by rw[<-hK];exact hR M' O' W' J h2 h3
 have pi:o.nm∉W.its:=λz=>hn (hw.its _ z);clear hR hK e3 e0 hn;obtain⟨h,n,tm,d⟩:=o;generalize Op.v ⟨h,n,tm,d⟩=v;change Yo (Sg w v d ao!) M K;change Ze W M w O ao! d K at j9;change D.tup bK!∉W.its at pi;change DG d at hd;change Fe d=none at hu;cases hd with
 |put ha hb=>exact c8y hL hw.inv bo hB pi ha hb j9
 |move ha hb hc=>exact c3z hL hw.inv bo hB ha hb hc j9
 |drop ha=>exact c4a hL hw.inv bo hB ha j9
 |write ha hb _ _ hs=>exact b9s hL hw.inv bo hB ha hb hs j9
 |cut ha hs J h2=>
  obtain⟨_,_,_,e,_,_,_,_,z0,_⟩:=hs;cases e;exact c8z hL hw.inv bo hB ha z0 J h2 j9
 |set ha J h2 _=>exact c8x hL hw.inv bo hB ha J h2 j9
 |undo _=>rw[wU]at hu;exact absurd hu (by simp[show pd_=true from by decide+kernel])
 |redo _=>rw[wU]at hu;exact absurd hu (by simp[show pe!=true from by decide+kernel])
end
def Sn.mono{W:OW}{B B':Nat}(l:cH_)(h:cx_):Sn W B':=⟨JM l.rows h,JM l.its h,λx=>JM (l.txt x) h⟩
section
variable{M:Mh}{R:D->Mh->Prop}{w:xz!}{O:Addr->Prop}{W:OW}{ρ:Ad}{pre:List D}
def d1z{ep:Nat}{fo fa fb:e_}(hp:bt_)(h0:kF_)(J:p6!)(h2:fb ρ=some z)(hk:bM!)(K:r_)(hK:K ((hx!).getD z) M):Hs cA! hu! kD! ρ M K:=by
 have c:Ea M z!=some kF!:=by simp[Ea,hp]
 simp only[Hs,wl,h0,J,h2,c,Fc,hk];exact hK
def yN{g:WF}{f1 f2:e_}{K:r_}(J:dY_)(h2:fb_)(k:g al! M K):Ao 2 g oz! ρ M K:=by unfold Ao Ab Af;rw[cF J,dn_];exact do!
def yO{g:WF}{f1:e_}{K:r_}(J:dY_)(k:g [a] M K):Ao 1 g (Ab j5_ Af) ρ M K:=by unfold Ao Ab Af;rw[cF J];exact do!
def GA:WT:=Fp vB_ vD!
def GB:WS:=As GA vE! Bp
def d1r{ft:WT}{q1 q2:WS}{b:Bool}{R:p_}(h:A7_)(k1:AF_)(k2:AF!):As ft q1 q2 ρ M R:=by
 refine h _ ?_;cases b with
 |true=>rw[A!];exact k1 rfl
 |false=>rw[T_];exact k2 rfl
def c0w{ft fu:WT}{b:Bool}{c:Bool}(h:A7_)(h2:b=true->∀K:Bool->Mh->Prop,K c M->fu ρ M K)(K:d2!)(hK:K (b&&c) M):Fp ft fu ρ M K:=by
 refine h _ ?_;cases b with
 |true=>rw[A!];exact h2 rfl K (by simpa using hK)
 |false=>rw[T_];simpa using hK
def c3b{e0:Nat}{x:Op}(kh:A8!)(hd:DG x.d)(hp:M p=some (.dct kb e0))(K:d2!)
  (hK:K (decide A8_) M):GA p6_ M K:=by
 obtain⟨k,r,e,hn,hs⟩:=d2c hd;have i0:f2 Aj nb! G! p6_=some P!:=b8p e;have hu:(! pH_)=decide p7!:=by
  cases hu:Fe x.d with
  |none=>
   obtain⟨J,h2⟩:=hn hu;rw[z0_,z1!,J,h2];rfl
  |some u=>
   obtain⟨g1,g2,hk,fq⟩:=hs u hu;rw[a9b hk];rfl
 obtain⟨kn,fw⟩:=a7l x;have hz:(∃b:Bool,(kget kb x.nm).getD ab!=.bl b/\(b=true↔kget wd x.nm=some bC_)):=by
  obtain⟨J,h2⟩|⟨k',J,h2⟩:=kh x.nm
  .exact⟨false,by rw[h2];rfl,by rw[J];simp⟩
  .refine⟨k'=="undo",by rw[h2];rfl,?_⟩;rw[J];show"#1"
   .intro z;rw[eq_of_beq z]
   .intro z;rw[D.str.inj (JX z)];exact LW _
 obtain⟨b,hb1,VD⟩:=hz;have e2:Au vC_ p6_=some x.nm:=c5r (lG x) (uC x);refine c0w (b:=decide p7!) (c:=!b) (λK' ui=>?_) (λ_ K' ui=>?_) K ?_
 .unfold wT w2;rw[cF i0,cF (f:=fC u3!) rfl,a4m];rw[hu];exact ui
 .unfold Kl wT;refine d1z hp rfl e2 rfl fw _ ?_;rw[hb1];exact ui
 .have:(decide p7!&&!b)=decide A8_:=by
   by_cases c1:Fe x.d=none
   .by_cases c2:kget wd x.nm=some bC_
    .rw[VD.mpr c2];simp[c2]
    .have:b=false:=by
      cases b with
      |true=>exact absurd (VD.mp rfl) c2
      |false=>rfl
     rw[this,IY c1,IY (⟨c1,c2⟩:_/\_)];rfl
   .rw[IG c1,IG λz:_/\_=>c1 z.1];rfl
  rw[this];exact hK
def a0k{e0:Nat}(kh:A8!):
  ∀(os:h!) (x1:D) (y:am_) (M:Mh) (O:aQ!) (W:OW) (pre:b!) (B:Nat) (R:p_),(∀x∈os,DG x.d)->zz_->(pv!).Nodup->Ca M w O W->Vt W pre->Sn W B->B+20*aT!<3800->M p=some (.dct kb e0)->¬O p->
   (∀M' O' W' y',Pb W pv_ W'->Ca M' w O' W'->zA!->Sn W' (B+20*aT!)->Fr M O M' O'->R (.nx [Z!,V!,af!,y']) M')->
   Ih al_ aj! GB aw_ [Z!,V!,af!,y] M R
 |[],x1,y,M,O,W,pre,B,R,_,_,_,hL,hw,bo,_,_,_,hR=>⟨trivial,hR M O W y .nil hL ⟨pre,hw⟩ (bo.mono a!) .refl⟩
 |x::os,x1,y,M,O,W,pre,B,R,hd,hp,nd,hL,hw,bo,hB,vy,jc,hR=>by
  refine bg!;simp only[IH]at hB hR;rw[IE,IQ]at nd;have jq:=hd x HX;refine d1r (c3b kh jq vy) dp! dp!
  .have c':=KC c;have ee:Lp wd hw_=x::Lp wd os:=by unfold Lp;rw[KD Bb!]
   refine gK (yN rfl rfl (d0d hL hw kL! jq c'.1 bo a! λM1 O1 W1 hs hL1 hF=>?_));have hq:=hF p (by rw[vy];simp) jc;refine a0k kh os x1 pw_ M1 O1 W1 (pre++[x.nm]) bt! R px! zF! nd.2 hL1 (b4s hs hw kL!) (bo.stp hs) a! (hq.1.trans vy) hq.2 (λM' O' W' y' g1 g2 g3 g4 g5=>hR M' O' W' y' (by rw[ee];exact .cons hs g1) g2 g3 Bc! (hF.trans g5));obtain z|z:=II.mp z
   .exact hp y dO_ z
   .rw[IR]at z;exact nd.1 zG_
  .have c':=MZ c;have ee:Lp wd hw_=Lp wd os:=by unfold Lp;rw[KF Bb!]
   exact a0k kh os x1 pw_ M O W pre bt! R px! px_ nd.2 hL hw (bo.mono a!) a! vy jc (λM' O' W' y' g1 g2 g3 g4 g5=>hR M' O' W' y' (by rw[ee];exact g1) g2 g3 Bc! g5)
def d0c:Sn W0 0:=⟨IN _,IN _,λ_=>IN _⟩
def d1q:((hA!).map c_).Nodup:=by
 refine IQ.mpr ⟨?_,IQ.mpr ⟨?_,Bc_⟩⟩
 .intro z;obtain z|z:=HV.mp z
  .exact c5a z
  .exact c5b oH!
 .intro z;exact c4y oH!
def c3f:∀q∈k3 a b c,(Df q.1).isSome=true:=λq hq=>by
 obtain rfl|hq:=HV.mp hq
 .rfl
 .obtain rfl|hq:=HV.mp hq
  .rfl
  .rw[IR.mp hq];rfl
def b2f:Vb=Ah vA_
 (Ah vB!
 (Ah (Ec nA! al_ GB)
 c1_)):=rfl
def c4b{f:WE->WS}{ρ:Ad}{K:r_}(hK:∀w M' O,M w=none->Ca M' w O W0->ps!->K bQ_ M'):
  On vA! ρ M K:=by
 intro w hw;refine pc (x:=.str "rows") rfl ?_;rw[cF (f:=Dr Ag) (d:=hG_) rfl];refine pc (x:=.str "texts") rfl ?_;intro wt ht;refine pc (x:=p1!) rfl ?_;intro wn hn;have L:=(((HL.new (M0:=M) (l:=[]) (c:=d6_) ps_ hw).new (c:=d6_) ht).new (c:=d6_) hn).put (u:=[_,_]) (c:=.dct Be! 3);have p:List.Perm [(wn,Cw.dct [] 0),(wt,.dct [] 0),(w,.dct Be! 3)] (DB W0 w wt wn (λ_=>w) 3 0 0):=(List.reverse_perm _).symm;have L:=L.perm p;refine⟨?_,zP!,c3f,d1q,hK w _ (λb=>b=w\/b=wt\/b=wn) hw ⟨wt,wn,λ_=>w,⟨3,0,0,L.cell,L.nd,iB!,Aa!⟩,λb=>?_⟩ λb hb=>⟨L.kp b hb,λz=>hb ?_⟩⟩
 .have e1:w≠wt:=dP (N:=mup M w ca!) (by rw[mup_same];simp) ht;rw[mup_ne (dP (N:=mup (mup M w ca!) wt ca!) (by rw[mup_ne e1,mup_same];simp) hn),mup_ne e1,mup_same]
 .exact PD (PD ⟨.inl,λz=>z.elim id λ⟨i,hi,_⟩=>by cases hi⟩)
 .obtain rfl|rfl|rfl:=z
  .exact hw
  .exact L.fr (_,_) hA_
  .exact L.fr (_,_) pK!
def a5r{ops:h!}(nd:d3!)(nn:zH!)(hl:d3_)(hd:hs!)
  (hR:∀w M' O W',M w=none->Pb W0 (Lp hs_ aS_) W'->Ca M' w O W'->zH_->Sn W' 1500->ps!->R bQ_ M'):Lw b9_ M R:=by
 refine n!;rw[b2f];have hp:(aS_).Perm ops:=bV ops;unfold Ah Am;refine c4b (f:=λ_=>Bp) λw M1 O hw hL fr=>?_;refine yO (a:=.lst cE_) rfl (a7v nd hl hd λp M2 ep gf fm ox=>?_);have rp:¬O p:=λz=>hL.live z gf;have hL2:Ca M2 w O W0:=hL.keep λc hc=>ox c λz=>rp qa_;unfold Ec Fz;refine yO (a:=.lst cE_) rfl (nH nd hl ?_);refine a0k (wd:=pm!) (sX aS_ [] [] λx=>.inl aE!) aS_ _ none M2 O W0 [] 0 _ (λx hx=>hd x zI_) zJ! zJ_ hL2 c5x d0c kM! fm rp λM' O' W' y' g1 g2 g3 g4 g5=>?_;refine hR w M' O' W' hw g1 g2 g3 (g4.mono kM!) λb hb=>?_;obtain⟨e1,e2⟩:=fr b hb;have e3:M2 b=M1 b:=ox b λz=>by rw[<-e1,z,gf]at hb;exact hb rfl
 obtain⟨e4,e5⟩:=g5 b zK! e2;exact⟨e4.trans (e3.trans e1),e5⟩
end
end K22
namespace K22
open PySem L2 DL
variable{t:Ar}
abbrev Xk:Nat:=1000000000000000000000000000000000000000000000000000000000000
def a1n{i:Int}(h:cR!<Xk):Fs [V_]=some B!:=by
 have:iG_<1000000000000000000000000000000000000000000000000000000000000:=by unfold Xk at h;split<;>omega
 push_cast[Fs,Pz,this]
def a1p{i k:Int}(h:cR!<Xk)(h0:0<=i)(J:i<k):Gu [V_,hd_]=some B!:=by push_cast[Gu,Qb,a1n h,h0,J]
def a1o{i:Int}(h:cR!<Xk)(J:1<=i):Dq [V_]=some B!:=by push_cast[Dq,Mm,a1n h,J]
def qX(h:NameG x):Dw [x]=some B!:=by
 obtain⟨a,b,rfl,J,h2,h3,h4⟩:=h
 push_cast[Dw,Od,a1p (i:=a) (k:=16) fC! J h2,a1o (i:=b) fC! h3]
def rP(h:Xb x):Dv [x]=some B!:=by
 obtain⟨a,b,c,rfl,J,h2,h3,h4,h5,h6⟩:=h
 push_cast[Dv,Kz,qX ⟨a,b,rfl,J,h2,h3,h4⟩,a1p (i:=c) (k:=16) fC! h5 a!]
def nM(h:Cb x):Gs [x]=some B!:=by
 have n:∀s,Dw [dX_]=some ab!:=λs=>by push_cast[Dw,Od]
 obtain rfl|rfl|h:=h
 .push_cast[Gs,Ls,n,gB]
 .push_cast[Gs,Ls,n,gB]
 .push_cast[Gs,Ls,qX h]
def yE(h:Md x):Fa [x]=some B!:=by
 obtain rfl|h:=h
 .push_cast[Fa,Ju]
 .obtain⟨a,b,rfl,_⟩:=id h
  push_cast[Fa,Ju,qX h]
def b9o(h:Ki x):Fu [x]=some B!:=by
 obtain rfl|h:=h
 .push_cast[Fu,Lb]
 .obtain⟨a,b,c,rfl,_⟩:=id h
  push_cast[Fu,Lb,rP h]
def b1e{i:Int}(h0:0<=i)(J:i<=3):Dp [V_]=some B!:=by push_cast[Dp,Qa,a1p (i:=i) (k:=4) fC! h0 a!]
def c8t{s:Str}(h:Th s=true)(J:1<=au_)(h2:j5!):Jl [dX_]=some B!:=by
 unfold Th at h;rw[JD,JC]at h;have hl:au_<=big:=by unfold big;omega
 have hc:=vO de! rfl s.cps.toList h.2;have gn:(List.map fz! s.cps.toList).all id=true:=by simp
 have z1:1<=ki_:=by omega
 have z2:ki_<=16:=by omega
 have hz:g8_<=big:=by simpa[Str.length]using hl
 have y0:Fv 1 [] (Zy q!) L! aV_ iR_ [some aS!]=some (.lst Bm!):=by
  show(if(s.cps.toList.map λc=>D.str at!).length<=big then Option.map D.lst (Dz L! aV_ iR_ de! (s.cps.toList.map λc=>.str at!))else none)=_;rw[IP,IB hz,hc];rfl
 have hall2:Qr [.lst Bm!]=some B!:=by
  simp only[Qr,vS,PQ,gn]
 push_cast[Jl,Rj,y0,hl,z1,z2,hall2]
def c8o(nd:t.nd):Kr t t.A0=some Gs/\Kr t t.A7=some Fa/\Kr t t.A8=some Fu/\Kr t t.A9=some Jl/\Kr t t.B0=some Dv/\
  Kr t t.B1=some Dq/\Kr t t.B2=some Dp/\Kr t t.B3=some Fs/\Kr t t.B4=some Dw:=by
 unfold Ar.nd at nd;simp only[IQ,HV,JJ,LH,OZ]at nd;unfold Kr;refine⟨?_,?_,?_,?_,?_,?_,?_,?_,?_⟩<;>grind
def rV(ρ:Ad)(nq:ρ=iw_):∀(cs:qc!),(∀c∈cs,∃g,Kr t c.1=some g/\g [c.2]=some B!)->
  Dz iU! aV_ iU_ ρ k9_=some kd!/\(k9_).length=dc_
 |[],_=>aE!
 |c::cs,h=>by
  have ih:=rV ρ nq cs λx hx=>h x cB_;obtain⟨g,J,h2⟩:=h c HX;subst nq;refine⟨?_,by simp only[IE,Kk,IH,ih.2]⟩;simp only[IE,Kk,Dz,ih.1];simp[Qp,Bf,Oj,Ac,Aa,Ag,J,h2]
def yP:∀(cs:qc!),Mr x6_=some x7!
 |[]=>rfl
 |c::cs=>by simp only[IE,Mr,yP cs,PQ]
def iV(cs:qc!)(h:∀c∈cs,∃g,Kr t c.1=some g/\g [c.2]=some B!)(hl:dc_<=1000):
  He t [.tup qd!,.tup qc_]=some B!:=by
 have hc:=rV iw_ rfl cs h;have hz:dc_<=big:=by unfold big;omega
 have y0:Fv 2 [] (Zx w! q!) iU! aV_ iU_ [some (.tup qd!),some (.tup qc_)]=some (.lst kd!):=by
  show(if(k9_).length<=big then Option.map D.lst (Dz iU! aV_ iU_ iw_ k9_)else none)=_;rw[hc.2,IB hz,hc.1];rfl
 have gn:Qr [.lst kd!]=some B!:=by
  simp only[Qr,yP,PQ];simp
 push_cast[He,Ov,y0,gn]
def a5f(x:D)(r:b!):Be (.tup (x::r)) fl! none=some (.tup r):=by
 have J:HT.sIx (aL_+1) 0 fl!=1:=by
  simp[HT.sIx]
 have h2:HT.sIx (aL_+1) (aL_+1) none=aL_+1:=by simp[HT.sIx]
 simp[Be,Dh,J,h2]
def iR{k:Str}(hk:(gj_).lookup k=some (.tup fs))(hp:He t [.tup r,.tup fs]=some B!)(hc:k≠"cut"):Hr t [.tup de_]=some B!:=by
 have h0:¬(he!+1=0):=by omega
 have he:Bb (.int (he!+1)) F_=some ab!:=by simp[Bb,Az,Gx,Eh,h0]
 push_cast[Hr,Oe,he,Yd,hk,Vg,hp,a5f,hc]
def c8w(nd:t.nd)(h:DG d):Hr t [d]=some B!:=by
 obtain⟨i1,i2,i3,i4,i5,i6,i7,i8,i9⟩:=c8o nd;have two:∀{a b:Addr×D} {P:qd_},P a->P b->∀c∈al!,P c:=λJ h2 c hc=>by
  simp only[HV,JJ,LH]at hc;obtain rfl|rfl:=hc
  .exact J
  .exact h2
 have vz:∀{a b c:Addr×D} {P:qd_},P a->P b->P c->∀x∈fJ!,P x:=λJ h2 h3 c hc=>by
  simp only[HV,JJ,LH]at hc;obtain rfl|rfl|rfl:=hc
  .exact J
  .exact h2
  .exact h3
 have one:∀{a:Addr×D} {P:qd_},P a->∀x∈[a],P x:=λJ c hc=>by rw[IR.mp hc];exact J
 cases h with
 |@put a b J h2=>exact iR rfl (iV [fD!,(t.A7,b)] (two fD_ ⟨_,i2,yE h2⟩) b_) j_
 |@move a b c J h2 h3=>exact iR rfl (iV [fD!,(t.A0,b),(t.A7,c)] (vz fD_ ⟨_,i1,nM h2⟩ ⟨_,i2,yE h3⟩) b_) j_
 |@drop a J=>exact iR rfl (iV [fD!] (one fD_) b_) j_
 |@write a b s J h2 h3 h4 h5=>exact iR rfl (iV [fD!,(t.A8,b),(t.A9,.str s)] (vz fD_ ⟨_,i3,b9o h2⟩ ⟨_,i4,c8t h3 h4 h5⟩) b_) j_
 |@cut a x y z m J h2 h3 h4=>
  have hz:0<=z:=by obtain⟨_,_,_,e,_,_,_,_,q,_⟩:=h2;cases e;exact q
  have hp:=iV (t:=t) [fD!,(t.B0,.tup jY!),(t.B1,.int m)] (vz fD_ ⟨_,i5,rP h2⟩ ⟨_,i6,a1o fC! h3⟩) b_;have he:Bb (.int 4) F_=some ab!:=by simp[Bb,Az,Gx,Eh]
  have hk:(gj_).lookup ("cut":Str)=some (.tup tg!):=rfl;simp only[IE,NN]at hp
  push_cast[Hr,Oe,he,Yd,hk,Vg,hp,a5f,h4]
 |@set a p n J h2 h3 h4=>exact iR rfl (iV [fD!,(t.B2,.int p),(t.B3,.int n)] (vz fD_ ⟨_,i7,b1e h2 h3⟩ ⟨_,i8,a1n h4⟩) b_) j_
 |@undo a J=>exact iR rfl Bp! j_
 |@redo a J=>exact iR rfl Bp! j_
def d3h{h n m:Int}(nd:t.nd)(J:0<=h)(h2:h<16)(h3:1<=n)(h4:n<=2000)(h5:1<=m)(h6:m<=1000)(hd:DG d):Bu t [.tup [aR_,aR!,dW!,d]]=some B!:=by push_cast[Bu,La,qX ⟨h,n,rfl,J,h2,h3,h4⟩,a1o (i:=m) fC! h5,c8w nd hd]
def mL(h:NameG x):Az x=true/\Gx x<=1:=by obtain⟨a,b,rfl,_⟩:=h;simp[Az,Bv,Gx,Dm]
def eH(h:Cb x):Az x=true/\Gx x<=1:=by
 obtain rfl|rfl|h:=h
 .simp[Az,Gx]
 .simp[Az,Gx]
 .exact mL h
def zB(h:Md x):Az x=true/\Gx x<=1:=by
 obtain rfl|h:=h
 .simp[Az,Gx]
 .exact mL h
def a9h(h:Ki x):Az x=true/\Gx x<=1:=by obtain rfl|⟨a,b,c,rfl,_⟩:=h<;>simp[Az,Bv,Gx,Dm]
def d2a(h:DG d):Az d=true/\Gx d<=2:=by
 cases h with
 |put J h2=>simp only[Az,Bv,Gx,Dm,eH J,zB h2,NO,RA];have:=(fE!).2;have:=(zB h2).2;omega
 |move J h2 h3=>simp only[Az,Bv,Gx,Dm,eH J,eH h2,zB h3,NO,RA];have:=(fE!).2;have:=(eH h2).2;have:=(zB h3).2;omega
 |drop J=>simp only[Az,Bv,Gx,Dm,eH J,NO,RA];have:=(fE!).2;omega
 |write J h2=>simp only[Az,Bv,Gx,Dm,eH J,a9h h2,NO,RA];have:=(fE!).2;have:=(a9h h2).2;omega
 |cut J=>simp only[Az,Bv,Gx,Dm,eH J,NO,RA];have:=(fE!).2;omega
 |set J=>simp only[Az,Bv,Gx,Dm,eH J,NO,RA];have:=(fE!).2;omega
 |undo J=>simp only[Az,Bv,Gx,Dm,mL J,NO,RA];have:=(mL J).2;omega
 |redo J=>simp only[Az,Bv,Gx,Dm,mL J,NO,RA];have:=(mL J).2;omega
variable{t:Ar}
nonrec def hs(os:h!)(h:Int):List Op:=os.filter λo=>decide (o.h=h)
structure AI(l:h!):Prop where
 num:∀(i:Nat) (o:Op),l[i]?=some o->o.n=k0_+1
 tim:l.Pairwise λa b=>a.tm<b.tm
structure AF(o:Op):Prop where
 hh:o.h=0\/o.h=5\/o.h=15
 t1:1<=o.tm
 t2:o.tm<=1000
 n1:1<=o.n
 n2:o.n<=2000
 dg:DG o.d
structure Hist(os:h!):Prop where
 ch:∀h,AI hL_
 op:∀o∈os,AF o
def AI.nil:AI []:=⟨λi o e=>by simp at e,ji!⟩
def AI.snoc{l:h!}{o:Op}(h:AI l)(e:o.n=(aC!:Nat)+1)(ht:∀x∈l,x.tm<o.tm):AI (l++[o]):=by
 refine⟨λi x hx=>?_,?_⟩
 .obtain c|c:=MH i aC!
  .rw[LA c]at hx;exact h.num i x hx
  .rw[JV c]at hx;obtain z|z:=Nat.eq_zero_or_pos (i - aC!)
   .rw[z]at hx;simp at hx;subst hx;rw[e];omega
   .rw[KJ a4!]at hx;cases hx
 .rw[PN];exact⟨h.tim,QP _ _,λa ha b hb=>by rw[k7_];exact ht a ha⟩
def eM{a b:h!}{h:Int}:hs (a++b) h=hs a h++hs b h:=by unfold hs;rw[QB]
def nK{o:Op}{h:Int}:hs [o] h=if o.h=h then[o]else[]:=by
 unfold hs;by_cases c:o.h=h
 .rw[IB c,KD Bs!];rfl
 .rw[IF c,KF Bs!];rfl
def jE{os:h!}{h:Int}{o:Op}:o∈hs os h↔o∈os/\o.h=h:=by unfold hs;rw[LP];simp
def Hist.nil:Hist []:=⟨λh=>AI.nil,λo ho=>by cases ho⟩
def Hist.snoc{os:h!}{o:Op}(h:Hist os)(hf:AF o)(e:o.n=((hs os o.h).length:Nat)+1)(ht:∀x∈os,x.h=o.h->x.tm<o.tm):Hist (os++[o]):=by
 refine⟨λk=>?_,aB!⟩
 .rw[eM,nK];by_cases c:o.h=k
  .rw[IB c];subst c;exact(h.ch _).snoc e λx hx=>ht x (jE.mp hx).1 (jE.mp hx).2
  .rw[IF c,JH];exact h.ch k
 .obtain z|z:=II.mp hx
  .exact h.op x z
  .rw[ef!];exact hf
structure HW(i:Nat)(os:h!)(c t:iB_):Prop where
 hist:Hist os
 len:aT!=i
 q:∀h,c h=((hL_).length:Nat)
 u:∀x∈os,x.tm<=t x.h
 b:∀h,0<=t h/\t h<=3*i
def AF.ok{o:Op}(h:AF o):Ul o.v:=⟨o.h,o.n,o.tm,o.d,rfl,by obtain z|z|z:=h.hh<;>omega,by obtain z|z|z:=h.hh<;>omega,h.n1,h.n2,h.dg⟩
def a1i(os:h!)(h:Int):(hL_).length<=aT!:=PM _ _
def HW.step{i:Nat}{os:h!}{c t:iB_}{a m:Int}(hw:HW i os c t)(ha:a=0\/a=5\/a=15)(h0:0<=m)(hi:i<100)(hd:DG dd):HW ab_ (os++[⟨a,c a+1,t a+1+m / 3%3,dd⟩]) (λh=>if h=a then c a+1 else c h) (λh=>if h=a then t a+1+m / 3%3 else t h):=by
 have m1:0<=m / 3%3:=LB _ c!;have m2:m / 3%3<3:=KI _ c!;have hc:=hw.q a;have hb:=hw.b a;have hl:=a1i os a;rw[hw.len]at hl;refine⟨hw.hist.snoc ⟨ha,by show 1<=t a+1+m / 3%3;omega,by show t a+1+m / 3%3<=1000;omega,by show 1<=c a+1;omega,by show c a+1<=2000;omega,hd⟩ (by show c a+1=((hs os a).length:Nat)+1;omega) (λx hx (hh:x.h=a)=>by have:=hw.u x hx;rw[hh]at this;show x.tm<t a+1+m / 3%3;omega),by rw[JA,hw.len];rfl,fs!,aB!,fs!⟩
 .show(if h=a then c a+1 else c h)=_;rw[eM,nK,JA];by_cases e:h=a
  .rw[IB e,e,A!,hc];simp
  .rw[IF e,IF (JE e),hw.q h];simp
 .show _<=if x.h=a then t a+1+m / 3%3 else t x.h
  obtain z|z:=II.mp hx
  .have:=hw.u x z;split
   .rename_i e;rw[e]at this;omega
   .exact this
  .rw[ef!,A!];exact NE _
 .show 0<=qg_/\qg_<=_;have:=hw.b h;split<;>omega
section
variable{ρ:Ad}
def b5n{i:Nat}{fx fv:e_}{j:Int}{ds:b!}{k:Nat}(hv:fv ρ=some d)(hx:qh_)(hl:lc_)(hk:Du ds.length j=some k):Uc i fx fv ρ=some (.nx wL_):=by unfold Uc;rw[hv,hx,hl];show(oi_).map _=_;rw[hk];rfl
def a1a{i:Nat}{fx:e_}{j:Int}(hx:qh_)(hl:lc_)(h:Cs ds j=some d):Ln i fx ρ=some d:=by unfold Ln;rw[hx,hl];exact h
def c9x{i:Nat}{f:e_}{ds:b!}(hf:cs_)(hl:lc_)(hb:f_<big):Rq i f ρ=some wJ!:=by unfold Rq;rw[hf,hl];show(if f_<big then _ else _)=_;rw[IB hb]
def c3q{f:e_}(h:cs_)(n:Dy d=true):Np f ρ=some d:=by unfold Np;rw[h];show(if Dy d=true then _ else _)=_;rw[IB n]
end
def b7k{j:Int}:De (.int 7) b4_=some (.int (7*j)):=rfl
def b4h{ns:r!}{base j m kk a c t:Int}{os cs ts:b!}{k:Nat}(em:Bn [b6_,.int (base+7*j)]=some cz_)(ed:Jx [b6_,.int (base+7*j+1),.lst os,.int 5]=some dd)(nd:Dy dd=true)(z:m%3=kk)
  (hc:Cs cs kk=some (.int c))(ht:Cs ts kk=some (.int t))(kc:Du cs.length kk=some k)(kt:Du ts.length kk=some k)(b7:Cs qj_ kk=some (.int (c+1)))(ht':Cs ql! kk=some qk_)
  (ha:Cs [D.int 0,.int 5,hO!] kk=some (.int a))(hb:aT!<big):
  Us [ae_,ao_,some N,some (.lst os),some (.lst cs),some (.lst ts),some b4_,x7,x8,x9]=some (.nx [ae_,ao_,some N,some (.lst (os++[.tup [.int a,.int (c+1),.int (t+1+m / 3%3),dd]])),some (.lst qj_),some (.lst ql!),some b4_,some cz_,some (.int kk),some dd]):=by
 refine(bD (iD (iQ (bL rfl (bL qm! rfl)) em))).trans ?_;refine(bD (iD (bS rfl rfl ((uK c!).trans (by rw[z]))))).trans ?_;refine(bD (b5n (bS (a1a rfl rfl hc) rfl rfl) rfl rfl kc)).trans ?_;refine(bD (b5n (bS (bS (a1a rfl rfl ht) rfl rfl) (bS (bS rfl rfl rfl) rfl (uK c!)) rfl) rfl rfl kt)).trans ?_;refine(bD (iD (c3q (iQ (bL rfl (bL (bS qm! rfl rfl) hQ_)) ed) nd))).trans ?_;exact c9x (yY (bL (bS rfl rfl ha) (bL (a1a rfl rfl b7) (bL (a1a rfl rfl ht') fl_))) rfl) rfl hb
def b1p(ns:r!)(base:Int)(N:Nat)(hN:N<=100):∃os:List Op,Jn [b6_,.int base,.int N]=some lj_/\aT!=N/\Hist os/\∀x∈os,x.tm<=3*N:=by
 let P:Nat->Ad->Prop:=λi ρ=>∃(os:h!) (c t:iB_) (x6 x7 x8 x9:am_),ρ=qp!/\aT!=i/\HW i os c t
 obtain⟨ρ',e,os,c,t,x6,x7,x8,x9,rfl,hl,hw⟩:=oZ (bnd:=Cq 6) (q:=Us) P fj_ 0
  hS!
  ⟨[],λ_=>0,λ_=>0,none,none,none,none,rfl,rfl,.nil,rfl,cj_,λx h=>hv!,λ_=>by simp⟩ (by
   rintro j d ρ hd ⟨os,c,t,x6,x7,x8,x9,rfl,hl,hw⟩;unfold Cy at hd;rw[JN]at hd;obtain⟨i',de,rfl⟩:=IA.mp hd;obtain⟨au,he⟩:=IJ.mp de;rw[PZ]at he;subst he;rw[NJ]at au;have ho:∀o∈os.map Op.v,Ul o:=λo ho=>by obtain⟨x,hx,rfl⟩:=IU.mp ho;exact(hw.hist.op x hx).ok
   have lq:(aw_).length<=100:=by rw[IP];omega
   obtain⟨m,em,m0,_⟩:=gR ns (k:=base+7*(j:Nat));obtain⟨dd,ed,hd⟩:=c4d ns (base:=base+7*(j:Nat)+1) (most:=5) ho lq c! c!;have nd:=a8k hd;have hb:(aw_).length<big:=by unfold big;omega
   have yz:m%3=0\/m%3=1\/m%3=2:=by omega
   obtain z|z|z:=yz
   .exact⟨_,_,rfl,lk_,_,_,_,_,_,_,_,ll!,dZ_,hw.step aj_ a! a! hd⟩
   .exact⟨_,_,rfl,lk_,_,_,_,_,_,_,_,ll!,dZ_,hw.step fu_ a! a! hd⟩
   .exact⟨_,_,rfl,lk_,_,_,_,_,_,_,_,ll!,dZ_,hw.step (.inr gv!) a! a! hd⟩)
 refine⟨os,?_,by simpa[Cy]using hl,hw.hist,λx hx=>by have:=hw.u x hx;have:=hw.b x.h;simp[Cy]at this;omega⟩;have hr:-1000<=(N:Int)/\(N:Int)<=100000:=by omega
 have hf:Qu (Fj C_) gE! Us hS!=some (.nx qp!):=by
  have hi:Fj C_ hS!=some fj_:=by
   simp[Fj,Aa,hr]
  unfold Qu;rw[hi];exact e
 have hq:Qe qq!=some (.rt lj_):=by
  show sSeq (Ni 3 Ag) (sSeq (Ni 4 jm_) (sSeq (Ni 5 jm_) (sSeq (Qu (Fj C_) gE! Us) (Bc D_)))) _=_;rw[bD (ρ':=[ae_,ao_,eg_,hz_,none,none,none,none,none,none]) rfl];rw[bD (ρ':=[ae_,ao_,eg_,hz_,lk!,none,none,none,none,none]) rfl];rw[bD (ρ':=hS!) rfl];rw[bD hf];rfl
 unfold Jn By;rw[IB c5_];show(match Qe qq! with|some (.rt d)=>some d|some (.nx _)=>some .non|none=>none)=_;rw[hq]
def d0y{o:Op}(nd:t.nd)(h:AF o):Bu t [o.v]=some B!:=by
 have a1:0<=o.h/\o.h<16:=by obtain z|z|z:=h.hh<;>omega
 exact d3h nd a1.1 a1.2 h.n1 h.n2 h.t1 h.t2 h.dg
def b7f{β:Type}{f:Op->β}(hf:∀a b,f a=f b->a.h=b.h):∀(os:h!),(∀h,((hL_).map f).Nodup)->(os.map f).Nodup
 |[],_=>LN
 |o::os,H=>by
  have sub:∀h,(hL_).Sublist (hs hw! h):=λh=>by unfold hs;exact(List.sublist_cons_self o os).filter _
  rw[IE,IQ];refine⟨dh_,b7f hf os λh=>((sub h).map f).nodup (H h)⟩;obtain⟨x,hx,e⟩:=IU.mp z;have hh:=hf _ _ e;have H1:=H o.h;have:hs hw! o.h=o::hs os o.h:=by unfold hs;rw[KD b_]
  rw[this,IE,IQ]at H1;exact H1.1 (IU.mpr ⟨x,jE.mpr ⟨hx,hh⟩,e⟩)
def Hist.names{os:h!}(h:Hist os):(pv!).Nodup:=by
 refine b7f qs_ os λk=>?_
 .show"#<";exact e.1
 .have hn:=(h.ch k).num;rw[PV,RX,QD];intro i j hi hj UC e;have e1:=hn i _ (IL hi);have e2:=hn j _ (IL hj);show"#<";omega
def Hist.keys{os:h!}(h:Hist os):(os.map Op.key).Nodup:=by
 refine b7f qs_ os λk=>?_
 .simp only[Op.key,Prod.mk.injEq]at e;exact e.2
 .rw[PV,RX];refine(h.ch k).tim.imp λ{a b} k9 e=>?_;simp only[Op.key,Prod.mk.injEq]at e;omega
end K22
namespace K22
open PySem L2 DL
open Classical
def c2r(h:b4!)(hd:Gx d<=40):Er d d=some ab!:=by unfold Er;rw[h,pM d h,IY hd];rfl
def a6y(o:Op):Aj o.v bB!=some ft!:=by simp[Op.v,Aj,Cs,Du]
def qL:∀{ds:b!},(∀d∈ds,Az d=true)->Bv ds=true
 |[],_=>by simp[Bv]
 |d::ds,h=>by
  unfold Bv;rw[h d HX,qL λx hx=>h x cB_];rfl
def vM{n:Nat}:∀{ds:b!},(∀d∈ds,Gx d<=n)->Dm ds<=n
 |[],_=>by simp[Dm]
 |d::ds,h=>by
  unfold Dm;have J:=h d HX;have h2:=vM λx hx=>h x (HS d hx);omega
def b0i{o:Op}(h:DG o.d):Az o.v=true/\Gx o.v<=5:=by
 obtain⟨J,h2⟩:=d2a h;show"#1"
 .show Bv kz!=true;refine qL λd hd=>?_;simp only[HV,JJ,LH]at hd;obtain rfl|rfl|rfl|rfl:=hd
  .rfl
  .rfl
  .rfl
  .exact J
 .show Dm kz!+1<=5;have:Dm kz!<=2:=vM λd hd=>by
   simp only[HV,JJ,LH]at hd;obtain rfl|rfl|rfl|rfl:=hd
   .simp[Gx]
   .simp[Gx]
   .simp[Gx]
   .exact h2
  omega
nonrec def hF(yy:Int)(ta wa:xz!)(out:D):List b5!:=[("ours",.int yy),("taken",.fn ta),("waiting",.fn wa),("outline",out)]
section
variable{yy:Int}{ta wa:xz!}{out:D}
def hF1:List.lookup qt_ cK!=some (D.int yy):=by kernel_rfl
def hF2:List.lookup qu_ cK!=some (D.fn ta):=by kernel_rfl
def hF3:List.lookup qv_ cK!=some (D.fn wa):=by kernel_rfl
def hF4:List.lookup ln! cK!=some out:=by kernel_rfl
def hM1:List.lookup (Str.ofString "have") cK!=none:=by kernel_rfl
def hP1:Hw qt_ lo_ []=[ds!]:=by kernel_rfl
def hP2:Hw qu_ (.fn ta) [ds!]=fN!:=by kernel_rfl
def hP3:Hw qv_ (.fn wa) fN!=fN_:=by kernel_rfl
def hP4:Hw ln! .non fN_=hF yy ta wa .non:=by kernel_rfl
def hP5:Hw ln! o2 cK!=hF yy ta wa o2:=by kernel_rfl
end
structure Br(t:Ar)(M:Mh)(yy:Int)(a ta wa:xz!)(out:D)(S:h!)(kl:r!)(ca:fO!):Prop where
 ob:M a=some (.obj t.B5 cK!)
 tk:∃ep,M ta=some (.dct fO_ ep)
 wt:M wa=some d7_
 cl:∀h∈kl,M (ca h)=some (.lst ((ds_).map Op.v))
 nk:kl.Nodup
 mem:∀h,h∈kl↔hs S h≠[]
 cw:∀h∈kl,ca h≠wa
 ci:∀h∈kl,∀h'∈kl,ca h=ca h'->h=h'
 len:hU!<=cK_
def fY{g:Int->D}:∀{kl:r!} {x:Int},kget (kl.map λh=>(D.int h,g h)) (.int x)=if x∈kl then some (g x)else none
 |[],x=>by simp[kget]
 |k::kl,x=>by
  rw[IE];unfold kget;by_cases e:k=x
  .subst e;simp
  .rw[IF λz=>e lp!,fY];simp[JE e]
section
variable{t:Ar}{M:Mh}{yy:Int}{a ta wa:xz!}{out:D}{S:List Op}{kl:List Int}{ca:Int->Addr}
def Br.nob(hA:ak!)(hm:(cK!).lookup m=none):Ed t.B5 m M cp_:=by show(match M a with|some (.obj C' fs)=>C'=t.B5/\fs.lookup m=none|_=>False);rw[hA.ob];exact⟨rfl,hm⟩
def Br.nol(hA:ak!){h:Int}(hh:h∉kl):hs S h=[]:=QF λz=>hh ((lq_).mpr z)
def Br.keep{M':Mh}(hA:ak!)(k:hV!):Br t M' yy a ta wa out S kl ca:=by obtain⟨ep,ht⟩:=hA.tk;exact{hA with ob:=(k a fP_).trans hA.ob,tk:=⟨ep,(k ta hV_).trans ht⟩,wt:=(k wa hW!).trans hA.wt,cl:=λh hh=>(k _ hW_).trans lr_}
def sP{h:Int}(hA:ak!):Vv gv_ [H!,aR_] M ls!:=λK hK=>by
 show"#!";refine n!;by_cases c:h∈kl
 .have hl:Vs M [.fn (ca h)]=some ls!:=by
   show((Rp M hX_).map λxs=>D.int i_)=_;simp only[Rp,hA.cl h c,PQ,IP]
  exact dJ (a9r (oA fQ! fQ_ p0! ht (k:=ls_) rfl (by rw[fY,IB c];rfl)) hl) hK
 .have hl:Vs M [hG_]=some ls!:=by rw[hA.nol c];rfl
  exact dJ (a9r (oA fQ! fQ_ p0! ht (k:=ls_) rfl (by rw[fY,IF c];rfl)) hl) hK
def yX{o:Op}(hA:ak!):Vv (Ft t) hY_ M (.bl (decide (o.n<=du!))):=λK hK=>by
 refine n!;exact dJ (eS lt_ qD_ rfl) hK
def a7z{o:Op}(hA:ak!):Vv (Gr t) hY_ M (.bl (o.n==du!+1)):=λK hK=>by
 refine n!;exact dJ (eS lt_ (eS qD_ hZ_ (d:=.int (du!+1)) rfl) (sQ _ _)) hK
nonrec def lt(S:h!)(h:Int):Int:=((ds_).getLast?.map Op.tm).getD 0
def c3g{xs:b!}(h:xs.getLast?=some v):Cs xs (-1)=some v:=by
 have hl:0<i_:=by cases xs with|nil=>cases h|cons a l=>simp
 show"#3";rw[IF a!,ap_];show xs[((-1:Int)+i_).toNat]?=_;rw[show((-1:Int)+xs.length).toNat=xs.length - 1 by omega,<-List.getLast?_eq_getElem?];exact h
def pA{h:Int}(hA:ak!):Vv (Es t) [H!,aR_] M (.int (lt S h)):=λK hK=>by
 show"#!";refine n!;show Ah t2_ t3_ [A_,fR_] M _;have hv:=zP (eS (g:=λ_=>Bb) (ρ:=[A_,fR_]) (lB lv_ lu! (aT (f:=Aa 1) (d:=aR_) rfl) (sP hA)) (aT (f:=fC F_) rfl) (sQ _ _));by_cases c:hs S h=[]
 .rw[c]at hv;refine tH hv (dJ hG! ?_);unfold lt at hK;rw[c]at hK;exact hK
 .have hl:0<(ds_).length:=List.length_pos_iff.mpr c;rw[show((qz_:Int)==0)=false from by rw[KN];omega]at hv;refine jS hv ?_;have hk:=(lq_).mpr c;obtain⟨o,ho⟩:∃o,(hs S h).getLast?=some o:=by cases e:(ds_).getLast? with|some o=>exact⟨o,rfl⟩|none=>exact absurd (QE.mp e) c
  have i1:Ce M (.fn ta) fR!=some hX_:=(qG!).trans (by rw[fY,a5!]);have i2:Ce M hX_ (.int (-1))=some o.v:=by
   simp only[Ce,hA.cl h hk];exact c3g (by rw[List.getLast?_map,ho];rfl)
  have e:lt S h=o.tm:=by unfold lt;rw[ho];rfl
  rw[e]at hK;exact dJ (eS (eS (eS fQ! fQ_ i1) (aT (d:=.int (-1)) rfl) i2) qG_ (a6y o)) hK
def b3f{ρ:Ad}{fy:e_}{R:r_}(hy:fy ρ=some lo_)(hR:∀a ta wa M',Br t M' yy a ta wa .non [] [] (λ_=>a)->R cp_ M'):Hj t.B5 2 (Oi t) (Ab (wl fy) Af) ρ M R:=by
 unfold Hj Ab Af;rw[cF hy];refine⟨rfl,λa ha=>n!⟩;have L:HL M (mup M a (.obj t.B5 [])) [qH_]:=HL.new (l:=[]) ps_ ha;refine kY ?_;rw[cF (f:=Aa 1) (d:=h3_) rfl];refine gA (fs:=[]) rfl (L.cell qH_ b_) c! hP1 ?_
 replace L:=L.put (u:=[]) (c:=.obj t.B5 [ds!])
 refine kY λta hta=>?_
 replace L:=L.new (c:=d6_) hta
 refine gA (fs:=[ds!]) rfl (L.cell (a,.obj t.B5 [ds!]) b_) zw_ hP2 ?_
 replace L:=L.put (u:=[_]) (c:=.obj t.B5 fN!)
 refine kY ⟨U_,λwa hwa=>?_⟩
 replace L:=L.new (c:=hG_) hwa
 refine gA (fs:=fN!) rfl (L.cell (a,.obj t.B5 fN!) b_) zx_ hP3 ?_
 replace L:=L.put (u:=[_,_]) (c:=.obj t.B5 fN_)
 refine nV ?_;rw[lA!];refine gA (fs:=fN_) rfl (L.cell (a,.obj t.B5 fN_) b_) zy! hP4 ?_
 replace L:=L.put (u:=[_,_]) (c:=.obj t.B5 qJ!)
 exact⟨rfl,hR a ta wa _ ⟨L.cell (a,.obj t.B5 qJ!) b_,⟨0,L.cell (ta,.dct [] 0) b_⟩,L.cell (wa,.lst []) b_,lB!,LN,λh=>by simp[hs],lB!,lB!,IN _⟩⟩
end
section
variable{t:Ar}{M:Mh}{ρ:Ad}{yy:Int}{a ta wa:xz!}{out:D}{S:List Op}{kl:List Int}{ca:Int->Addr}
def cQ{ep:Nat}(hp:bt_):Ea M z!=some kF!:=by simp[Ea,hp]
def yM(hp:pz_):Nq M z!=some (p,xs):=by simp[Nq,hp]
def GQ(fa:e_)(ρ:Ad)(d:D)(M:Mh)(R:r_):Prop:=Fc (Nq M d) λ_=>wl fa ρ M λv M2=>Fc (Nq M2 d) λq=>pn!<big/\R .non zg_
def c1j{fo:WE}{fa:e_}{q:WS}{R:p_}(h:fo ρ M λd M1=>GQ fa ρ d M1 λ_ M2=>q ρ M2 R):Ah (Bq (Ut fo hu!)) q ρ M R:=h
def a5p{xs:b!}{f:e_}{R:r_}(hp:pz_)(hf:f ρ=some v)(hl:i_<big)(k:R .non (mup M p (.lst (xs++[v])))):GQ f ρ z! M R:=by refine iJ ?_;rw[cF hf,yM hp];exact iJ ⟨hl,k⟩
def c1f{h1:j!}{ep:Nat}{fo:WE}{fa:e_}{K:r_}(ho:kN!)(J:p6!)(hp:bt_)(hk:bM!)(hl:cE!)
  (old:∀q v,M q=none->kget h1 y=some v->K v fS_)(new:∀q,M q=none->kget h1 y=none->K bO! (mup fS_ p (.dct (Bg h1 y bO!) bu!))):Jq fo hu! (Qy Af) ρ M K:=by
 refine ho _ ?_;rw[cQ hp];refine iJ ?_;rw[cF J];refine⟨U_,d5_⟩;have pq:p≠q:=dP qM_ hq;show Fc (Ea fS_ z!) _;rw[cQ ((mup_ne pq).trans hp)];refine iJ ?_;rw[hk];refine iJ ⟨hl,?_⟩;cases e:kget h1 y with
 |some v=>exact old q v hq e
 |none=>exact new q hq e
def yV{o:Op}{R:r_}(hA:ak!)(hS:bx_)(hR:∀M' bh bi,Br t M' yy a ta wa .non (S++[o]) bh bi->R .non M'):Jm t hY_ M R:=by
 obtain⟨ep,ht⟩:=hA.tk;refine n!;refine c1j ?_;have i0:f2 Aj w! G! [A_,K!]=some cb!:=lG o;have VE:hU!<64:=KM hA.len hS;have oy:(dt_).length<64:=KM (a1i S o.h) hS;have at_:a≠ta:=λz=>by have:=hA.ob;rw[z,ht]at this;cases this
 have aw:a≠wa:=λz=>by have:=hA.ob;rw[z,hA.wt]at this;cases this
 have tw:ta≠wa:=λz=>by rw[z,hA.wt]at ht;cases ht
 have cA:∀h∈kl,ca h≠a:=λh hh z=>by have:=hA.cl h hh;rw[z,hA.ob]at this;cases this
 have cT:∀h∈kl,ca h≠ta:=λh hh z=>by have:=hA.cl h hh;rw[z,ht]at this;cases this
 refine c1f (k:=h9!) fQ! i0 ht rfl ec_ (λq v hq e=>?_) (λq hq e=>?_)
 .have aq:a≠q:=dP fP_ hq;have tq:ta≠q:=dP hV_ hq;have wq:wa≠q:=dP hW! hq;have cq:∀h∈kl,ca h≠q:=λh hh=>dP hW_ hq;rw[fY]at e;have c:o.h∈kl:=by
   by_cases c:o.h∈kl
   .exact c
   .rw[IF c]at e;cases e
  rw[IB c]at e;cases e;refine a5p (p:=ca o.h) (v:=o.v) ((mup_ne (cq _ c)).trans (hA.cl _ c)) rfl ec_ ?_;generalize e2:mup fS_ (ca o.h) qN_=M2;have m2:∀b,b≠q->b≠ca o.h->M2 b=M b:=λb J h2=>by rw[<-e2,jT_,e5!]
  have m2c:M2 (ca o.h)=some qN_:=by rw[<-e2];exact mup_same
  refine nV ?_;rw[lA!];refine gA (fs:=qO!) rfl ((m2 a aq (JE (cA _ c))).trans hA.ob) kK! hP5 ?_;refine hR _ kl ca ⟨mup_same,⟨ep,?_⟩,?_,lC_,hA.nk,fs!,hA.cw,hA.ci,?_⟩
  .rw[qP!,m2 ta tq (JE (cT _ c))];exact ht
  .rw[qQ!,m2 wa wq (JE (hA.cw _ c))];exact hA.wt
  .rw[mup_ne (cA h hh),eM,nK];by_cases z:o.h=h
   .rw[IB z,<-z,m2c,IZ];rfl
   .rw[IF z,JH,m2 _ (cq h hh) λy=>z (hA.ci _ hh _ c y).symm];exact hA.cl h hh
  .rw[eM,nK];by_cases z:o.h=h
   .rw[IB z];subst z;simp[c]
   .rw[IF z,JH];exact hA.mem h
  .rw[JA];have:=hA.len;omega
 .have aq:a≠q:=dP fP_ hq;have tq:ta≠q:=dP hV_ hq;have wq:wa≠q:=dP hW! hq;have cq:∀h∈kl,ca h≠q:=λh hh=>dP hW_ hq;rw[fY]at e;have c:o.h∉kl:=by
   by_cases c:o.h∈kl
   .rw[IB c]at e;cases e
   .exact c
  have pv:Bg fO_ cb! bO!=fO_++qR_:=jO (λz=>by
   rw[JU]at z;obtain⟨x,hx,ex⟩:=IU.mp z;exact c (by rw[<-D.int.inj ex];exact hx))
  rw[pv];refine a5p (p:=q) (v:=o.v) (xs:=[]) ((mup_ne (JE tq)).trans mup_same) rfl c! ?_;generalize e2:mup (mup fS_ ta qU!) q (.lst ([]++[o.v]))=M2;have m2:∀b,b≠q->b≠ta->M2 b=M b:=λb J h2=>by rw[<-e2,e5!,jT_,e5!]
  have m2q:M2 q=some (.lst [o.v]):=by rw[<-e2];exact mup_same
  have m2t:M2 ta=some qU!:=by rw[<-e2,mup_ne tq];exact mup_same
  refine nV ?_;rw[lA!];refine gA (fs:=qO!) rfl ((m2 a aq at_).trans hA.ob) kK! hP5 ?_;have nc:∀h∈kl,h≠o.h:=λh hh z=>c (z▸hh);have yr:hs S o.h=[]:=hA.nol c;refine hR _ (kl++[o.h]) (λh=>if h=o.h then q else ca h) ⟨mup_same,⟨ep+1,?_⟩,?_,lC_,?_,fs!,lC_,λh hh h' oz ee=>?_,?_⟩
  .rw[qP!,m2t,IZ];congr 3
   .apply LC;intro h hh;rw[IF (nc h hh)]
   .show _=[(D.int o.h,D.fn (if o.h=o.h then q else ca o.h))];rw[A!]
  .rw[qQ!,m2 wa wq (JE tw)];exact hA.wt
  .show mup M2 a _ lE_=_;by_cases z:h=o.h
   .rw[IB z,mup_ne (JE aq),m2q,z,eM,nK,A!,yr];rfl
   .have oz:h∈kl:=(II.mp hh).resolve_right λy=>z lF!;rw[IF z,mup_ne (cA h oz),m2 _ (cq h oz) (cT h oz),eM,nK,IF (JE z),JH];exact hA.cl h oz
  .rw[JL];exact⟨hA.nk,Bc_,λx hx y hy=>by rw[IR.mp hy];exact nc x hx⟩
  .rw[eM,nK,II,IR];by_cases z:o.h=h
   .rw[IB z];simp[z]
   .rw[IF z,JH,<-hA.mem h];simp[JE z]
  .show lE_≠wa;by_cases z:h=o.h
   .rw[IB z];exact JE wq
   .rw[IF z];exact hA.cw h ((II.mp hh).resolve_right λy=>z lF!)
  .have g:∀x,x∈kl++[o.h]->x≠o.h->x∈kl:=λx hx z=>(nW!).resolve_right λy=>z lF!;have rh:lE_=(if h'=o.h then q else ca h'):=ee;by_cases z:h=o.h
   .by_cases z':h'=o.h
    .rw[z,z']
    .rw[IB z,IF z']at rh;exact absurd rh.symm (cq h' (g h' oz z'))
   .by_cases z':h'=o.h
    .rw[IF z,IB z']at rh;exact absurd rh (cq h (g h hh z))
    .rw[IF z,IF z']at rh;exact hA.ci h (g h hh z) h' (g h' oz z') rh
  .rw[JA,JA];have:=hA.len;simp;omega
def a6t{f:WE}{nl:Nat}{ix:k!}{bnd:ad!}{ft:WT}{fe:WE}(h:Pu f ρ M z!)(hp:M p=some d7_):Pu (Da nl ix (Fz f) bnd ft fe) ρ M d7_:=λK hK=>by
 refine h _ ?_;show(match M p with|some (.lst xs)=>_|_=>False);rw[hp];exact⟨JK _,hp,hK⟩
def b1v{ft:WT}{q q2:WS}{R:p_}(h:py_)(k:hn_):Ah (Kt ft q) q2 ρ M R:=by refine e6!;refine h _ ?_;rw[T_];exact k
def pS(hA:ak!):Vv (Fb t) [H!] M F_:=λK hK=>by
 refine n!;refine eP hG! ?_;refine eP (a6t (eR aC_ hA.ob hF3) hA.wt) ?_;refine b1v ia_ ?_;exact dJ hG! hK
def a6q{o:Op}{R:r_}(hA:ak!)(hS:bx_)(hn:o.n=du!+1)(hR:∀M' bh bi,Br t M' yy a ta wa .non (S++[o]) bh bi->R a9! M'):Jj t hY_ M R:=by
 refine n!;show Ah uh! _ lG_ M _;have hx:Tx ug! lG_ M true:=by
  have e:(o.n==du!+1)=true:=by rw[hn];exact LW _
  have:=zP (oB (ρ:=lG_) lv_ (aT (f:=Aa 1) rfl) (a7z (o:=o) hA));rw[e]at this;exact this
 refine tH hx ?_;refine gK (yN rfl rfl (yV hA hS λM' bh bi d8=>?_));exact dJ (eS hZ_ (oC (aT (f:=Aa 0) (d:=H!) rfl) (pS d8)) (d:=.int 1) rfl) lH_
def Hist.next{os:h!}{o:Op}(h:Hist (S++o::os)):o.n=du!+1:=by
 have:=(h.ch o.h).num (dt_).length o;rw[eM]at this;have e:hs hw! o.h=o::hs os o.h:=by unfold hs;rw[KD b_]
 rw[e]at this;exact this (by rw[JV v_];simp)
def DY(t:Ar):WS:=So 2 uj_
def a9d:∀(os:h!) (x1:D) (k:Int) (y:am_) (M:Mh) (out:D) (S:h!) (kl:r!) (ca:fO!) (R:p_),Br t M yy a ta wa out S kl ca->Hist (S++os)->(S++os).length<64->
  (∀M' bh bi v0 y',Br t M' yy a ta wa v0 (S++os) bh bi->((out=.non->v0=.non)/\(os≠[]->v0=.non))->R (.nx [A_,Z!,some (.int (k+(aT!:Nat))),y']) M')->
  Ih al_ aj! (DY t) aw_ [A_,Z!,some er!,y] M R
 |[],x1,k,y,M,out,S,kl,ca,R,hA,_,_,hR=>⟨trivial,by
  have:=hR M kl ca out y (by rw[JH];exact hA) ⟨id,λz=>absurd rfl z⟩;simpa using this⟩
 |o::os,x1,k,y,M,out,S,kl,ca,R,hA,hH,hl,hR=>by
  refine bg!;show Ao 2 (Jj t) ng! [A_,Z!,some er!,K!] M _;have lq:cK_<64:=by rw[JA]at hl;omega
  refine yN rfl rfl (a6q hA lq hH.next λM' bh bi d8=>?_);have e:S++o::os=S++[o]++os:=by simp
  refine a9d os x1 M_ d4! M' .non (S++[o]) bh bi R d8 (by rw[<-e];exact hH) qY_ λM2 kl2 ca2 out2 y2 h2 hz=>?_;have h3:=hR M2 kl2 ca2 out2 y2 (by rw[e];exact h2) ⟨q0!,q0!⟩;have ek:k+((hw!).length:Nat)=k+1+(aT!:Nat):=by rw[IH];omega
  rw[ek]at h3;exact h3
def a6d{h1:j!}{ep:Nat}{fo fa fb:e_}{K:r_}(h0:kF_)(J:p6!)(h2:fb ρ=some z)(hp:bt_)(hk:bM!)(hl:cE!)(hn:y∉h1.map c_)(hK:K z (mup M p (.dct (h1++[(y,z)]) bu!))):Jq cA! hu! kD! ρ M K:=by unfold Jq;rw[cF h0,cQ hp];refine iJ ?_;rw[cF J,dn_,cQ hp,hk];refine iJ (iJ ⟨hl,?_⟩);rw[pC hn,jO hn];exact hK
def b7d(o:Op):Aj o.nm F_=some cb!:=by simp[Op.nm,Aj,Cs,Du]
def GY(t:Ar):WS:=Ah gs!
 (Ah t7_
 t8_)
structure Nx(yy:Int)(S:h!)(o:Op):Prop where
 f:AF o
 y:o.h≠yy
 n:du!<o.n
 t:lt S o.h<o.tm
def b0l{M0:Mh}(hA:q2_)(h0:M0 p=none):∀(os dn:h!) (x1:D) (y3 y4 y5:am_) (ep:Nat) (M:Mh) (R:p_),vX!->(∀o∈os,Nx yy S o)->((dn++os).map Op.nm).Nodup->(dn++os).length<64->M p=some (.dct v1! ep)->
  (∀M' bg zc zd y5',M' p=some (.dct ((dn++os).map λo=>nO_) bg)->v2!->R (.nx [A_,Z!,af!,zc,zd,y5']) M')->
  Ih al_ aj! (GY t) aw_ [A_,Z!,af!,y3,y4,y5] M R
 |[],dn,x1,y3,y4,y5,ep,M,R,fr,_,_,_,hp,hR=>⟨trivial,hR M ep y3 y4 y5 (by rw[JH];exact hp) fr⟩
 |o::os,dn,x1,y3,y4,y5,ep,M,R,fr,hf,nd,hl,hp,hR=>by
  refine bg!;have ho:=hf o HX;have d8:=hA.keep fr;have e:dn++o::os=dn++[o]++os:=by simp
  have es:Fd D_ Aw cY_ [A_,Z!,af!,K!,y4,y5]=some o.nm:=a9g o;refine eP (aT es) ?_;have J:Tx t4_ lN! M false:=by
   have:=zP (oB (ρ:=lN!) lv_ (aT (f:=Aa 3) rfl) (yX (o:=o) d8));rw[IG (by have:=ho.n;omega)]at this;exact this
  have h2:Tx t6_ lN! M false:=by
   refine zP (eS (aT (d:=hp_) (b7d o)) (eR aC_ d8.ob hF1) ?_);have:(o.h==yy)=false:=KN.mpr ho.y;rw[sQ,this]
  refine tI J (tI h2 ?_);have hnn:o.nm∉(v1!).map c_:=λz=>by
   rw[JU]at z;rw[IZ,JL]at nd;exact nd.2.2 o.nm z o.nm b_ rfl
  refine a6d (p:=p) (y:=o.nm) (z:=o.v) (k:=q6_) rfl rfl rfl hp rfl (by rw[IP];rw[JA]at hl;unfold big;omega) hnn ?_;have h3:fT t8! q7_=some false:=by
   obtain⟨n1,n2⟩:=b0i ho.f.dg;have:f2 Er S_ D_ q7_=some ab!:=c2r n1 a!;show"!t"
  refine tI (lC h3) ?_;refine b0l hA h0 os (dn++[o]) x1 d4! (some o.nm) d4! bu! _ R q8! (λx hx=>hf x cB_) (by rw[<-e];exact nd) qY_ (by rw[mup_same,IZ];rfl) λM' bg z3 z4 z5 g1 g2=>?_;exact hR M' bg z3 z4 z5 (by rw[e];exact g1) g2
def a7k{ms:h!}{R:r_}(hA:ak!)(hN:ra!)(nn:(fV!).Nodup)(hl:ea_<64)
  (hR:∀M' p ep,M p=none->M' p=some (.dct fV_ ep)->kE_->R z! M'):Ej t ic_ M R:=by
 refine n!;intro p hp;have fr:∀b,M b≠none->mup M p ca! b=M b:=λb hb=>mup_ne (dP hb hp);have rg:=hA.keep fr;unfold Ah Ec Fz;have uh:Pa d6! (.fn wa) lP!=some lP!:=by
  simp only[Pa,rg.wt];rw[IB (by rw[IP];unfold big;simp;omega)];rfl
 refine eS (eR aC_ rg.ob hF3) (aT (d:=.lst dv!) rfl) uh _ ?_;exact b0l (p:=p) hA hp ms [] _ none none none 0 _ _ fr hN (by simpa using nn) lV_ mup_same λM' bg y3 y4 y5 g1 g2=>dJ id! (hR M' p bg hp g1 g2)
def HJ(t:Ar):WS:=Ah t9_
 (Ah uc_
 uc!)
def d0r{h1:j!}{ep:Nat}{fo fi f:e_}{R:p_}(h0:kF_)(J:fi ρ=some y)(h2:f ρ=some v)(hp:bt_)(hk:bM!)(hl:cE!)(k':R ad_ fs_):Bx cA! (wl fi) (wl f) ρ M R:=by unfold Bx;rw[dn_,cF h0,cF J,iI hp hk hl];exact k'
def b1i{M0:Mh}{e0:Nat}(hA:q2_)(gf:M0 p=some (.dct h1 e0))(h0:M0 q=none):∀(qs:h!) (mh:j!) (ep:Nat) (y3 y4:am_) (M:Mh) (R:p_),vX!->(∀o∈qs,kget h1 o.nm=some o.v/\Nx yy S o)->M q=some (.dct mh ep)->
  qs.Pairwise (λx y=>x.h=y.h->x.tm<y.tm)->(∀o∈qs,∀v,kget mh cb!=some v->∃m,v=.int m/\m<o.tm)->mh.length+qs.length<1000->
  (∀M' zc zd,v2!->R (.nx [A_,af!,bi_,zc,zd]) M')->
  Ih al_ aj! (HJ t) (qs.map Op.nm) [A_,af!,bi_,y3,y4] M R
 |[],mh,ep,y3,y4,M,R,fr,_,_,_,_,_,hR=>⟨trivial,hR M y3 y4 fr⟩
 |o::qs,mh,ep,y3,y4,M,R,fr,hk,hq,pw,ht,hl,hR=>by
  refine bg!;have d8:=hA.keep fr;have hp:=(fr p (by rw[gf];simp)).trans gf;obtain⟨hko,ho⟩:=hk o HX;rw[KW]at pw;simp only[IH]at hl;have i1:Ce M z! o.nm=some o.v:=(fA (k:=q6_) hp rfl).trans hko;have i2:Ce M o.v bB!=some ft!:=a6y o;refine eP (eS (eS id! (aT (d:=o.nm) rfl) i1) qG_ i2) ?_;have ix:f2 Aj D_ G! rc_=some cb!:=b7d o;obtain⟨m,em,hm⟩:∃m:Int,(kget mh (.int o.h)).getD (.int (lt S o.h))=.int m/\m<o.tm:=by
   cases e:kget mh cb! with
   |none=>exact⟨_,rfl,ho.t⟩
   |some v=>
    obtain⟨m,e1,e2⟩:=ht o HX v e;exact⟨m,e1,e2⟩
  have hc:Tx ub! rc_ M false:=by
   refine zP (eS (aT (d:=ky_) rfl) (oA (aT (d:=.fn q) rfl) (aT ix) (oB cg_ (aT ix) (pA d8)) hq (k:=h9!) rfl em) ?_);show some (D.bl (decide (o.tm<=m)))=_;rw[IG a!]
  refine jS hc ?_;refine d0r (p:=q) (y:=hp_) (v:=ky_) (k:=h9!) rfl ix rfl hq rfl bs_ ?_;refine b1i hA gf h0 qs _ _ (some o.nm) (some ft!) _ R q8! re_ mup_same pw.2 (λx hx v hv=>?_) (by have:=kput_len mh cb! ft!;omega) hR;by_cases c:o.h=x.h
  .rw[<-c,iU]at hv;cases hv;exact⟨_,rfl,pw.1 x hx c⟩
  .rw[mW λz=>c lp!]at hv;exact ht x cB_ v hv
def b0u{f:Op->D}{g:Op->D}:∀{l:h!},(fB_).Nodup->∀{o:Op},o∈l->kget (l.map λo=>(f o,g o)) (f o)=some (g o)
 |[],_,o,h=>by cases h
 |x::l,nd,o,h=>by
  rw[IE,IQ]at nd;rw[IE];unfold kget;obtain rfl|h:=HV.mp h
  .rw[A!]
  .rw[IF λz=>nd.1 (by rw[z];exact IM h),b0u nd.2 h]
def Og(o:Op):Int×Int:=(o.h,o.n)
def Hist.nkeys{ms:h!}(h:Hist ms):(ms.map Og).Nodup:=by have:=h.names;rw[PV,RX]at this ⊢;refine this.imp λ{x y} hxy e=>hxy ?_;simp only[Og,Prod.mk.injEq]at e;show D.tup [.int x.h,.int x.n]=D.tup [.int y.h,.int y.n];rw[e.1,e.2]
def Hist.rise{ms:h!}(h:Hist ms){x y:Op}(hx:x∈ms)(hy:y∈ms)(e:x.h=y.h)(hn:x.n<y.n):x.tm<y.tm:=by have nr:x∈hs ms y.h:=jE.mpr ⟨hx,e⟩;have hy':y∈hs ms y.h:=jE.mpr ⟨hy,rfl⟩;obtain⟨i,hi,ei⟩:=PP.mp nr;obtain⟨j,hj,ej⟩:=PP.mp hy';have J:=(lU!).num i x (by rw[IL hi,ei]);have h2:=(lU!).num j y (by rw[IL hj,ej]);have:=QD.mp (lU!).tim i j hi hj a!;rw[ei,ej]at this;exact this
def b7x{x y:Op}(h:Kq (Og x) (Og y)=true)(e:x.h=y.h):x.n<y.n:=by simp only[Kq,CA,Og,e,KA,JC]at h;exact h
def vP{e0:Nat}{ms:h!}{R:r_}(hA:ak!)(hH:ig!)(hN:ra!)(hl:ea_<64)(hp:M p=some (.dct fV_ e0))
  (hR:rh!):Iw t [H!,.fn p] M R:=by
 refine n!;intro q hq;have qp:q≠p:=JE (dP qM_ hq);have hp1:mup M q ca! p=some (.dct fV_ e0):=(mup_ne (JE qp)).trans hp;have nn:(fV!).Nodup:=by have:=hH.names;rw[IZ,JL]at this;exact this.2.1
 have nk:(ms.map Og).Nodup:=by have:=hH.nkeys;rw[IZ,JL]at this;exact this.2.1
 unfold Ec Fz;have um:(ig_).Perm ms:=bV ms;have hsort:Ro (mup M q ca!) [.fn p]=some (.lst ((ig_).map Op.nm)):=by
  show((Ea (mup M q ca!) z!).bind λq=>(Wg kV_).map D.lst)=_;rw[cQ hp1];show(Wg ((fV_).map c_)).map D.lst=_;have e1:(fV_).map c_=ms.map Op.nm:=by rw[JU];rfl
  have e2:(fV!).map kf2=ms.map Og:=by rw[JU];rfl
  rw[e1];unfold Wg;rw[IB ⟨LZ.mpr λd hd=>by obtain⟨o,_,rfl⟩:=IU.mp hd;rfl,by rw[e2];exact nk,uw!⟩];show some (D.lst (Iu kf2 fV!))=_;rw[tJ (f:=Op.nm) (k:=Og) (k':=kf2) λo=>rfl]
 refine a9r id! hsort _ ?_;refine b1i hA hp hq ig_ [] 0 none none _ _ (λb hb=>mup_ne (dP hb hq)) (λo ho=>⟨b0u nn rh_,hN o rh_⟩) mup_same ?_ (λo _ v hv=>by cases hv) (by rw[um.length_eq];simp;omega) λM' y3 y4 h=>hR M' h;have cm:Ol Og ig_:=gC nk;have:=List.Pairwise.and_mem.mp cm;exact this.imp λ{x y} h e=>hH.rise (HZ _ (um.mem_iff.mp h.1)) (HZ _ (um.mem_iff.mp h.2.1)) e (b7x (x:=x) (y:=y) h.2.2 e)
def a5n:∀{ys:b!},(∀y∈ys,y=D.bl true)->Mr ys=some rj!
 |[],_=>rfl
 |y::ys,h=>by
  rw[h y HX];show(Mr ys).map (true::·)=_;rw[a5n λx hx=>h x cB_];rfl
def a1z{f:e_}(h:cs_):Ac f Ag ρ=some [d]:=by unfold Ac;rw[h];rfl
def b1c{g:ac_}{fs:am!}(h:hk!):f1 g fs ρ=g ds:=by unfold f1;rw[h];rfl
def c4t{ms:h!}(nd:t.nd)(hH:∀o∈ms,AF o)(hl:ea_<64):Cr ue! im!=some false:=by
 obtain⟨ys,e,_,hr⟩:=mD (ρ:=de!) (bnd:=Bf 0) (ft:=oX_) (fe:=f1 (Bu t) a8_) (λy=>y=D.bl true) dv! (by
  intro d hd;obtain⟨o,ho,rfl⟩:=IU.mp hd;exact⟨[K!],true,rfl,rfl,λ_=>⟨eo!,d0y nd (hH o ho),rfl⟩⟩)
 have hc:Fv 1 [] (Ei w!) L! aV_ ud_ im!=some bb!:=by
  show(if(dv!).length<=big then Option.map D.lst (Dz _ _ _ de! dv!)else none)=_;rw[IB ec_,e];rfl
 have ha:f1 Qr (Ac nj! Ag) im!=some B!:=by
  have J:Ac nj! Ag im!=some [.lst ys]:=by
   exact a1z hc
  rw[b1c J];show(Mr ys).map (λbs=>D.bl n3_)=_;rw[a5n hr];show some (D.bl ((rj!).all id))=_;rw[LZ.mpr λx hx=>by obtain⟨_,_,rfl⟩:=IU.mp hx;rfl]
 unfold Cr fT;rw[ha];rfl
def Hist.nx{ms:h!}(h:ig!)(hy:lY!):∀o∈ms,Nx yy S o:=λo ho=>by
 have hc:=h.ch o.h;rw[eM]at hc;have hm:o∈hs ms o.h:=jE.mpr lY_;refine⟨h.op o lZ!,hy o ho,?_,?_⟩
 .obtain⟨i,hi,e⟩:=PP.mp hm;have:=hc.num ((dt_).length+i) o (by rw[JV a!,Nat.add_sub_cancel_left,IL hi,e]);omega
 .unfold lt;cases e:(dt_).getLast? with
  |none=>show(0:Int)<o.tm;have:=(h.op o lZ!).t1;omega
  |some x=>exact(PN.mp hc.tim).2.2 x ro_ o hm
def rC{ms:h!}{R:r_}(nd:t.nd)(hA:ak!)(hH:ig!)(hy:lY!)(hl:ea_<64)(hR:rh!):Fm t ic_ M R:=by
 refine n!;refine jS (lC (c4t nd (λo ho=>hH.op o lZ!) hl)) ?_;refine gK ?_;have hn:∀K:D->Mh->Prop,Ej t ic_ M K->Ao 2 (Ej t) dN_ [A_,il_] M K:=λK h=>yN rfl rfl h;have hN:=hH.nx hy;have nn:(fV!).Nodup:=by have:=hH.names;rw[IZ,JL]at this;exact this.2.1
 refine hn _ (a7k hA hN nn hl λM1 p ep h0 hp fr=>n!);exact vP (hA.keep fr) hH hN hl hp λM' ox=>hR M' λb hb=>(ox b (by rw[fr b hb];exact hb)).trans fU_
def c1b{ms:h!}{R:r_}(nd:t.nd)(hA:l0_)(hH:ig!)(hy:lY!)(hl:(S++ms).length<64)(hR:∀M' bh bi,Br t M' yy a ta wa .non (S++ms) bh bi->R (.int l1!) M'):Uh t ic_ M R:=by
 refine n!;show Ah uj! (Ah (Am 2 aO!) (Ah (Ec nk! al_ (DY t)) eJ_)) [A_,il_,none,none] M _;have lq:ea_<64:=by rw[JA]at hl;omega
 unfold Ah;refine gK (yN rfl rfl (rC nd hA hH hy lq λM1 fr=>?_));refine aT (f:=fC F_) (d:=bg_) rfl _ ?_;show Ec nk! al_ (DY t) rr! M1 _;have hi:Ei w! rr!=some dv!:=a1h rfl;unfold Ec Ja;refine a9d ms _ 0 none M1 .non S kl ca _ (hA.keep fr) hH hl λM' bh bi v0 y' d8 hz=>?_;rw[hz.1 rfl]at d8;refine dJ (aT (d:=.int l1!) (by show some (D.int (0+l1!))=_;rw[Int.zero_add])) lH_
end
def c2g{α:Type}(p q:α->Bool)(l:O!)(h:∀x∈l,¬(p x=true/\q x=true)):(l.filter p++l.filter q).Perm rs!:=by
 have J:=List.filter_append_perm p rs!;rw[QA,QA]at J;have e1:(l.filter λx=>p x&&(p x||q x))=l.filter p:=OC λx _=>by cases p x<;>simp
 have e2:(l.filter λx=>(!p x)&&(p x||q x))=l.filter q:=OC λx hx=>by
  cases c:p x<;>cases d:q x<;>simp_all
 rw[e1,e2]at J;exact J
def yC{S:h!}:∀{kl:r!},kl.Nodup->(l2_).Perm (S.filter λo=>decide (o.h∈kl))
 |[],_=>by simp
 |k::kl,nd=>by
  rw[IQ]at nd;refine((yC nd.2).append_left _).trans ?_;refine(c2g (λo:Op=>decide (o.h=k)) (λo=>decide (o.h∈kl)) S λx _ z=>?_).trans (List.Perm.of_eq (OC λx _=>by simp[HV]));simp only[JC]at z;exact nd.1 (z.1▸z.2)
section
variable{t:Ar}{M:Mh}{ρ:Ad}{yy:Int}{a ta wa:xz!}{out:D}{S:List Op}{kl:List Int}{ca:Int->Addr}
def Br.perm(hA:ak!):(l2_).Perm S:=by refine(yC hA.nk).trans (List.Perm.of_eq (KQ.mpr λo ho=>?_));rw[JC,hA.mem];intro z;have:o∈hs S o.h:=jE.mpr lY_;rw[z]at this;cases this
def FC(t:Ar):WS:=Xm 1 nd!
def b1n{ck:cF_}(hA:ak!)(g9:ck M)(hS:bx_):∀(ks:r!) (acc:h!) (y:am_) (R:p_),(∀h∈ks,h∈kl)->cF!+64*hh_<100000->
  (∀y',R (.nx [A_,some (.lst ((acc++ks.flatMap (hs S)).map Op.v)),y']) M)->
  Ih bD! ck (FC t) rv! [A_,hz!,y] M R
 |[],acc,y,R,_,_,hR=>⟨g9,by have:=hR y;simpa using this⟩
 |h::ks,acc,y,R,hk,hl,hR=>by
  refine⟨g9,?_⟩;show"#!";have hh:=hk h HX;show FC t [A_,hz!,fR_] M _;show Xm 1 nd! [A_,hz!,fR_] M _;have i1:Ce M (.fn ta) fR!=some hX_:=(qG!).trans (by rw[fY,IB hh]);refine eS fQ! fQ_ i1 _ ?_;rw[yM lr_];refine iJ ?_;have oy:(ds_).length<64:=KM (a1i S h) hS;simp only[IH]at hl;refine rv_;rw[<-IZ];refine b1n hA g9 hS ks (acc++hs S h) (some fR!) R re_ wh_ λy'=>?_;have:=hR y';rw[List.flatMap_cons,<-KL]at this;exact this
def pR(hA:ak!)(hH:ay_)(hS:bx_):Vv (Et t) [H!] M l4!:=λK hK=>by
 obtain⟨ep,ht⟩:=hA.tk;refine n!;show Ah (Ec (Ph c3!) bD! (FC t)) tY! [A_,hz_,none] M _;unfold Ah Ec Ph;refine eR aC_ hA.ob hF2 _ ?_;rw[cQ ht];refine iJ ?_;have VE:hU!<64:=KM hA.len hS;have ek:(fO_).map c_=kl.map D.int:=by rw[JU];rfl
 rw[ek];refine b1n hA ht hS kl [] none _ (λh hh=>hh) a4! λy'=>?_;have hp:=hA.perm;have nd:((l2_).map Op.key).Nodup:=(kL_).nodup_iff.mpr hH.keys;have he:f1 Dg dG_ [A_,some (.lst rx!),y']=some l4!:=by
  show Dg [.lst rx!]=_;rw[KP,lX nd ry_,rF hp nd]
 exact dJ (aT he) hK
structure OS(t:Ar)(M:Mh)(a o:xz!)(O:aQ!)(W:OW):Prop where
 hob:∃yy ta wa,M a=some l4_
 out:Bt t M o O W 1500
def c2f{R:r_}(hA:l0_)(hH:ay_)(hS:bx_)(hr:Pb W0 cP! W')
  (hR:∀M' o O',OS t M' a o O' W'->Br t M' yy a ta wa ai_ S kl ca->cP_->(∀b,M b≠none->¬O' b)->R ai_ M'):Ez t [H!] M R:=by
 refine n!;show Ah tY_ (Bj nd_) [A_] M _;refine tH (zP (eS (eR aC_ hA.ob hF4) rz_ rfl)) ?_;refine nV ?_;have hp:(dx!).Perm S:=bV S;have hc:∀K:D->Mh->Prop,Jk t [.lst rw!] M K->Ao 1 (Jk t) (Ab ne_ Af) [A_] M K:=λK h=>by
  show Ao 1 (Et t) aX_ [A_] M _;exact oC cg_ (pR hA hH hS) _ cv_
 refine hc _ (b2k (W':=W') ((kL_).nodup_iff.mpr hH.keys) ((kL_).nodup_iff.mpr hH.names) ry_ (λo ho=>(hH.op o (hp.mem_iff.mp ho)).dg) (by rw[b4u hH.keys];exact hr) λo M1 O' ho hO hw fr=>?_);have fa:=fr a fP_;refine gA (fs:=hF yy ta wa .non) rfl (fa.1.trans hA.ob) kK! hP5 ?_;have h2:Bt t rB! o O' W' 1500:=hO.keep λc hc=>mup_ne λz=>fa.2 qa_;have k:∀b,M b≠none->b≠a->mup M1 a l4_ b=M b:=λb hb hn=>(oB_).trans (fU_).1;show"#!";have v3:Br t rB! yy a ta wa ai_ S kl ca:={hA with ob:=mup_same,tk:=⟨ep,(k ta hV_ λz=>by rw[z,hA.ob]at ht;cases ht).trans ht⟩,wt:=(k wa hW! λz=>by have:=hA.wt;rw[z,hA.ob]at this;cases this).trans hA.wt,cl:=λh hh=>(k _ hW_ λz=>by have:=hA.cl h hh;rw[z,hA.ob]at this;cases this).trans lr_};exact dJ (eR aC_ mup_same hF4) (hR _ o O' ⟨⟨yy,ta,wa,mup_same⟩,h2⟩ v3 k λb hb=>(fU_).2)
variable{o:xz!}{O:Addr->Prop}{W:OW}{x:D}
def c2e(h:l6_):Vv (Ez t) [H!] M ai_:=λK hK=>by
 obtain⟨yy,ta,wa,hob⟩:=h.hob;refine n!;refine jS (zP (eS rC_ rz_ rfl)) ?_;exact dJ rC_ hK
def OS.nob(h:l6_)(hm:oe!):Ed t.B6 m M ai_:=by exact h.out.noOb hm
inductive HQ(t:Ar)(M:Mh)(yy:Int)(a ta wa:xz!)(S:h!)(kl:r!)(ca:fO!)(W:OW):Prop
 |new (h:l0_) (hH:ay_) (hS:bx_) (hr:fY_):HQ t M yy a ta wa S kl ca W
 |old {o:xz!} {O:aQ!} (h:Br t M yy a ta wa ai_ S kl ca) (hO:l6_):HQ t M yy a ta wa S kl ca W
def jI{i:Nat}{f:WE}{q:WS}{R:p_}(h:f ρ M λd M1=>q bG_ M1 R):Ah (Am i f) q ρ M R:=h
def DX(t:Ar)(M:Mh)(yy:Int)(a ta wa:xz!)(S:h!)(kl:r!)(ca:fO!)(W:OW)(M':Mh)(o:xz!)(O:aQ!):Prop:=OS t M' a o O W/\Br t M' yy a ta wa ai_ S kl ca/\∀b,M b≠none->b≠a->M' b=M b
def c7b{R:r_}(h:ci!)(hR:∀M' o O,DX t M yy a ta wa S kl ca W M' o O->R ai_ M'):Ez t [H!] M R:=by
 cases h with
 |new h hH hS hr=>exact c2f h hH hS hr λM' o O J h2 h3 _=>hR M' o O ⟨J,h2,h3⟩
 |old h hO=>exact c2e hO _ (hR M _ _ ⟨hO,h,λ_ _ _=>rfl⟩)
def c0v{R:r_}{E:EK}(h:ci!)(hk:dh!)(hs:AO x)(hR:x∈W.its->∀M' o O,DX t M yy a ta wa S kl ca W M' o O->R ai_ M')(hE:x∉W.its->∀M' o O,DX t M yy a ta wa S kl ca W M' o O->E t.NotThere M'):Dj t [H!,x] M R E:=by
 refine n!;show Ah uk_ um! [A_,bJ_,none] M _;refine jI (yO (a:=H!) rfl (c7b h λM' o O hA=>?_));have ht:Tx ul! [A_,bJ_,X_] M' (!decide e4!):=c6q (zP (lB rF_ (hA.1.nob b3_) ir! λK hK=>gJ hA.1.out hk hK));by_cases c:x∈W.its
 .rw[IY c]at ht;exact jS ht (dJ rF_ (hR c M' o O hA))
 .rw[IG c]at ht;unfold Ah;exact tH ht ⟨⟨⟨x,rfl,hs⟩,trivial⟩,λ_=>hE c M' o O hA⟩
def c9q{g:Xa}{E:EK}{f1 f2:e_}{K:r_}(J:l9!)(h2:l8_)(k:g [b,c] M K E):Gb 2 g E oz! ρ M K:=by unfold Gb Ab Af;rw[cF J,dn_];exact do!
def c7v{n:Nat}(h:n<=2000):n<10 ^ 60:=KM h (IW (show 2000<10 ^ 4 by decide) (Nat.pow_le_pow_right c! c!))
def d3d{i:Int}(h0:-1<=i)(J:i<=5):Dp [V_]=some ma_:=by
 by_cases c:0<=i/\i<=3
 .rw[IY c];exact b1e c.1 c.2
 .rw[IG c];have:i=-1\/i=4\/i=5:=by omega
  obtain rfl|rfl|rfl:=this<;>kernel_rfl
def a9a{i:Int}{R:r_}{E:EK}(h:ci!)(h0:-1<=i)(J:i<=5)(hk:dh!)(hs:AO x)(hR:x∈W.its->0<=i->i<=3->∀M' o O,DX t M yy a ta wa S kl ca W M' o O->R ai_ M')
  (hE:¬(x∈W.its/\0<=i/\i<=3)->∀M',HQ t M' yy a ta wa S kl ca W->cP_->E t.NotThere M'):Cg t mb_ M R E:=by
 refine n!;show Ah uo! up! ir_ M _;have hp:Cr un! ir_=some (!decide ma!):=by
  have:f1 Dp bD_ ir_=some ma_:=(b1c (a1z (f:=Aa 2) (d:=V_) rfl)).trans (d3d h0 J);unfold Cr fT;rw[this];rfl
 by_cases c:0<=i/\i<=3
 .rw[IY c]at hp;refine jS (lC hp) ?_;unfold Bj;exact c9q (b:=H!) (c:=x) rfl rfl (c0v h hk hs (λhx M' o O hA=>hR hx c.1 c.2 M' o O hA) λhx M' o O hA=>hE (λz=>hx z.1) M' rI_ hA.2.2)
 .rw[IG c]at hp;unfold Ah;exact tH (lC hp) ⟨⟨⟨V_,rfl,c7v a!⟩,trivial⟩,λ_=>hE (λz=>c z.2) M h λ_ _ _=>rfl⟩
end
nonrec def pG(k:Str)(r:b!)(p:cQ!)(n:D):List D×is!:=if k="put" then rJ! else if k="set" then(match r with
 |[a,.int q,.int v]=>if a∈p.1 then rK! else p
 |_=>p)else p
nonrec def pF(p:cQ!)(n d:D):List D×is!:=match d with
 |.tup (.str k::r)=>pG k r p n
 |_=>p
def b6p{p:cQ!}:pF p n cD!=pG k r p n:=rfl
def xG{p:cQ!}{k:Str}(h:k≠"put")(g:k≠"set"):pF p n cD!=p:=by rw[b6p];unfold pG;rw[IF h,IF g]
def b6o{p:cQ!}{a:D}{q v:Int}:pF p n (.tup rL!)=if a∈p.1 then rK! else p:=by rw[b6p];unfold pG;rw[IF j_,A!]
def c6z{p:cQ!}:pF p n (.tup (.str "put"::r))=rJ!:=by rw[b6p];unfold pG;rw[A!]
def c6c{W W':OW}(h:Sl W n d W'):rL_=pF (W.its,W.num) n d:=by
 cases h with
 |put _ _ _=>rw[c6z];rfl
 |mvY _ _ _ _ _=>exact(it!).symm
 |mvN _ _ _ _=>exact(it!).symm
 |drY _ _ _=>exact(it!).symm
 |drN _ _=>exact(it!).symm
 |wrt _ _ _ _=>rw[xG j_ j_];split<;>rfl
 |cut _ _ _ _=>rw[xG j_ j_];split<;>rfl
 |set _ _ _=>rw[b6o];split<;>rfl
def pY{W W':OW}{os:h!}(h:Pb W os W'):rL_=os.foldl it_ (W.its,W.num):=by
 induction h with
 |nil=>rfl
 |cons h _ ih=>rw[NX,<-c6c h];exact ih
def BX(S:h!):List D×is!:=(cP!).foldl it_ rM!
def b4t{S:h!}{u:Op}(nd:rM_)(h:rN!):Ey (S++[u])=Ey S++[u]:=by
 have nd1:(S.map Op.key).Nodup:=by rw[IZ]at nd;exact(nV!).1
 refine kX (kf:=Op.key) k5_ ?_ ((bV _).trans ((bV S).symm.append_right [u]));exact PN.mpr ⟨gC nd1,QP _ _,λx hx y hy=>by rw[IR.mp hy];exact oX.mpr (.inl (h x ((bV S).mem_iff.mp hx)))⟩
def a5y(f:Str->D){u:Op}(hu:Fe u.d=none):∀(a:h!) (acc:j!),Jb f (a++[u]) acc=Jb f a acc
 |[],acc=>by show(match Fe u.d with|some (k,a)=>_|none=>_)=_;rw[hu]
 |o::a,acc=>by
  show rQ!=rQ!;cases Fe o.d with
  |none=>exact a5y f hu a _
  |some k=>exact a5y f hu a _
def b8q{S:h!}{u:Op}{a:D}{q v:Int}(nd:rM_)(h:rN!)(hd:u.d=.tup rL!):(BX (S++[u])).1=(BX S).1:=by
 have hu:Fe u.d=none:=by rw[hd];rfl
 unfold BX;rw[b4t nd h,a5y _ hu];unfold Lp;rw[QB,List.foldl_append];generalize (List.filter _ dx!).foldl _ _=p;by_cases c:Fe u.d=none/\¬kget (Jb D.str dx! []) u.nm=some bC_
 .rw[KD yW_];show(pF p u.nm u.d).1=p.1;rw[hd,b6o];split<;>rfl
 .rw[KF yW_];rfl
def a1j:∀(xs:r!) (a:Int),a<=xs.foldl max a/\∀x∈xs,x<=xs.foldl max a
 |[],a=>⟨NE _,zt!⟩
 |y::xs,a=>by
  obtain⟨J,h2⟩:=a1j xs (max a y);rw[NX];refine⟨s_,aB!⟩;obtain rfl|hx:=HV.mp hx
  .omega
  .exact h2 x hx
def b1a:∀(xs:r!) (a:Int),xs.foldl max a=a\/xs.foldl max a∈xs
 |[],a=>.inl rfl
 |y::xs,a=>by
  rw[NX,HV];obtain z|z:=b1a xs (max a y)
  .rw[z];omega
  .exact .inr gG!
def AQ:List Int->Int
 |[]=>0
 |x::xs=>xs.foldl max x
def a7n:∀{l:r!},l≠[]->AQ l∈l
 |[],h=>absurd rfl h
 |x::xs,_=>HV.mpr (b1a xs x)
def a7o:∀{l:r!} {x:Int},x∈l->x<=AQ l
 |y::xs,x,h=>by
  obtain rfl|h:=HV.mp h
  .exact(a1j xs x).1
  .exact(a1j xs y).2 x h
def Sk(S:h!):Int:=AQ rV_
section
variable{t:Ar}{M:Mh}{ρ:Ad}{yy:Int}{a ta wa:xz!}{out:D}{S:List Op}{kl:List Int}{ca:Int->Addr}{W:OW}{x:D}
def a0c{o:Op}(h:o∈S):o.tm<=Sk S:=a7o (IT _ (IM h))
def c7p(hH:ay_)(hn:S≠[]):∃o∈S,o.tm=Sk S:=by
 obtain z|z:=II.mp rX_
 .obtain⟨o,ho,e⟩:=IU.mp z;exact⟨o,ho,e⟩
 .obtain⟨o,so,e⟩:=List.exists_cons_of_ne_nil hn;have J:=a0c (S:=S) (o:=o) rY!;have h2:=(hH.op o rY!).t1;have h3:Sk S=0:=IR.mp z;omega
def b7i{B:Int}(h0:0<=B)(h:∀x∈S,x.tm<=B):Sk S<=B:=by
 obtain z|z:=II.mp rX_
 .obtain⟨o,ho,e⟩:=IU.mp z;have:=h o ho;show AQ _<=B;omega
 .have h3:Sk S=0:=IR.mp z;omega
def d1m(hh:hs S h≠[]):∃o∈S,o.tm=lt S h:=by
 unfold lt;cases e:(ds_).getLast? with
 |none=>exact absurd (QE.mp e) hh
 |some o=>exact⟨o,(jE.mp ro_).1,rfl⟩
def d1n(hH:ay_){o:Op}(ho:o∈S):o.tm<=lt S o.h:=by
 have hm:o∈hs S o.h:=jE.mpr lY_;unfold lt;cases e:(dt_).getLast? with
 |none=>rw[QE.mp e]at hm;cases hm
 |some x=>
  obtain⟨l,hl⟩:=List.getLast?_eq_some_iff.mp e;have hp:=(hH.ch o.h).tim;rw[hl]at hm hp;obtain z|z:=II.mp hm
  .exact Int.le_of_lt ((PN.mp hp).2.2 o z x b_)
  .rw[ef!];exact NE _
def a4j{α:Type}(f:α->Int):∀l:List α,Mp rY_=some fB_
 |[]=>rfl
 |x::l=>by
  show(Mp rY_).map (f x::·)=_;rw[a4j f l];rfl
def b0p{l:r!}(h:l≠[]):Ry [.lst (l.map D.int)]=some (.int (AQ l)):=by obtain⟨x,xs,rfl⟩:=List.exists_cons_of_ne_nil h;show(Mp ((dE!).map λh=>D.int (id h))).bind _=_;rw[a4j,RI];rfl
def zY(hA:ak!)(hH:ay_)(hn:S≠[])(hl:bx_):Vv (Im t) [H!] M (.int iy!):=λK hK=>by
 obtain⟨ep,ht⟩:=hA.tk;have hk:∀x∈S,x.h∈kl:=λx hx=>(hA.mem x.h).mpr λy=>by have hm:x∈hs S x.h:=jE.mpr ⟨hx,rfl⟩;rw[y]at hm;cases hm
 obtain⟨o,ho,eo⟩:=c7p hH hn;have kn:kl.map (lt S)≠[]:=λz=>by have:=hk o ho;rw[List.map_eq_nil_iff.mp z]at this;cases this
 have e:AQ r0!=Sk S:=by
  refine Int.le_antisymm ?_ ?_
  .obtain⟨h,hh,e⟩:=IU.mp (a7n kn);obtain⟨o,ho,e2⟩:=d1m ((lq_).mp hh);have:=a0c ho;omega
  .have J:=d1n hH ho;have h2:=a7o (IM (f:=lt S) (hk o ho));omega
 refine n!;have hc:Pu ur_ [A_] M (.lst ((r0!).map D.int)):=λK hK=>by
  unfold Da Ph;refine eR aC_ hA.ob hF2 _ ?_;rw[cQ ht];have VE:hU!<64:=KM hA.len hl;refine iJ rv_;refine dI fz! (λd=>match d with|.int h=>.int (lt S h)|_=>.non) ht _ _ cG! ?_
  .rw[JU]at hd;obtain⟨h,_,rfl⟩:=IU.mp hd;exact⟨[fR_,A_],rfl,hF_,λ_ K hK=>oB cg_ fQ_ (pA hA) _ hK⟩
  .rw[hF!,JU,JU];rw[JU]at hK;exact hK
 exact dJ (eS hZ_ (a9r hc ((b0p kn).trans (by rw[e]))) rfl) hK
def zO{f g:WE}(h:kO_)(h2:Pu g ρ M e):Pu (Rm (Ab f (Ab g Af))) ρ M (.tup [d,e]):=λK hK=>by
 exact h _ (h2 _ ⟨pt!,hK⟩)
def a8s{g:WF}{f1 f2:WE}{x:D}{K:r_}(J:Pu f1 ρ M x)(h2:Pu f2 ρ M y)(k:g [x,y] M K):Ao 2 g zM! ρ M K:=by exact J _ (h2 _ do!)
def c3a{R:r_}(hA:ak!)(hH:ay_)(hn:S≠[])(hl:dA_)
  (hR:∀M' bh bi,Br t M' yy a ta wa .non (S++[⟨yy,1+f1_,1+Sk S,d⟩]) bh bi->R (.tup mj!) M'):Ui t [H!,d] M R:=by
 have hT:=zY hA hH hn a!;refine n!;refine eP (zO r5_ (eS (lB aC_ lu! r5_ (sP hA)) hZ_ (d:=mi_) (by rw[Int.add_comm];rfl))) ?_;have hv:Pu us! [A_,fp!,some (.tup mj!)] M (Op.mk yy (1+f1_) iy! d).v:=eS r6_ (zO (oC cg_ hT) (aT (d:=d) rfl)) rfl;refine nW (a8s cg_ hv (yV hA a! λM' bh bi d8=>?_));exact dJ r6_ lH_
end
section
variable{t:Ar}{M:Mh}{ρ:Ad}{yy:Int}{a ta wa:xz!}{out:D}{S:List Op}{kl:List Int}{ca:Int->Addr}{W:OW}{x:D}{i:Int}
def a8r{g:Xa}{E:EK}{f1 f2 f3:e_}{K:r_}(J:l9!)(h2:l8_)(h3:f3 ρ=some d)(k:g [b,c,d] M K E):Gb 3 g E pa_ ρ M K:=by unfold Gb Ab Af;rw[cF J,dn_,cF h3];exact do!
def c9p{g:Xa}{E:EK}{f1 f2 f3 f4:e_}{K:r_}(J:l9!)(h2:l8_)(h3:f3 ρ=some d)(h4:f4 ρ=some e)(k:g [b,c,d,e] M K E):Gb 4 g E pb! ρ M K:=by unfold Gb Ab Af;rw[cF J,dn_,cF h3,cF h4];exact do!
def Gd(W:OW)(x:D)(i:Int):Prop:=x∈W.its/\0<=i/\i<=3
structure Zf(x:D)(i:Int):Prop where
 k:∃k,Df x=some k
 s:AO x
 i0:-1<=i
 i1:i<=5
def b7b{R:r_}{E:EK}(h:ci!)(wi:Ch W)(q:dB!)
  (hR:Gd W x i->∀M',HQ t M' yy a ta wa S kl ca W->cP_->R r7_ M')
  (hE:¬Gd W x i->∀M',HQ t M' yy a ta wa S kl ca W->cP_->E t.NotThere M'):Oh t mb_ M R E:=by
 obtain⟨k,hk⟩:=q.k;refine n!;show Bj uq_ ir_ M _;unfold Bj w2 Bd;refine a8r (b:=H!) (c:=x) (d:=V_) rfl rfl rfl (a9a h q.i0 q.i1 hk q.s (λhx i0 i3 M' o rl hA=>?_) hE);refine⟨hA.1.nob b3_,?_⟩;unfold Ab Af;rw[cF (f:=Aa 1) (d:=x) rfl];refine⟨rfl,wE hA.1.out wi hx ?_⟩;rw[cF (f:=Aa 2) (d:=V_) rfl];have hl:=wi.nl x hx;have e:Ce M' of_ ak_=some r7_:=by
  show Cs cu_ i=_;show"#3";rw[ap_,ap_];show cu_[i.toNat]?=_;rw[OH,IL a!];rfl
 rw[e];exact hR r8_ M' rI_ hA.2.2
def b8w{R:D->Prop}(h:R aS!):Fc (AR c s c) R:=by unfold AR;rw[A!];exact h
def Nr(W:OW)(x:D)(i:Int):D:=if Gd W x i then(cu_).getD i.toNat .non else .str "refused"
def a8x{R:r_}(h:ci!)(wi:Ch W)(q:dB!)
  (hR:∀M',HQ t M' yy a ta wa S kl ca W->cP_->R iA_ M'):Jo t mb_ M R:=by
 show"#+";refine a8r (b:=H!) (c:=x) (d:=V_) rfl rfl rfl (b7b h wi q (λg M' h' fr=>?_) λg M' h' fr=>b8w ?_)
 .have:=hR M' h' fr;rw[Nr,IB g]at this;exact dJ aC_ this
 .have:=hR M' h' fr;rw[Nr,IF g]at this;exact dJ aC_ this
def b3b(hr:fY_)(hx:of!):S≠[]:=λz=>by
 rw[z]at hr;have:W.its=[]:=congrArg Prod.fst (pY hr);rw[this]at hx;cases hx
def Tv(S:h!)(yy:Int)(x:D)(i v:Int):Op:=⟨yy,1+f1_,1+Sk S,sa!⟩
def HQ.hd(h:ci!):∃out,Br t M yy a ta wa out S kl ca:=by
 cases h with
 |new h _ _ _=>exact mm_
 |old h _=>exact mm_
def Qq(W:OW)(S:h!)(yy:Int)(x:D)(i v:Int):D:=if Gd W x i then(mn!).nm else .str "refused"
nonrec def aftP(W:OW)(S:h!)(yy:Int)(x:D)(i v:Int):List Op:=if Gd W x i then S++sa_ else S
def c4v{v:Int}{R:r_}(h:ci!)(hH:ay_)(hl:dA_)(hr:fY_)(q:dB!)
  (hG:Gd W x i->∀M' bh bi,Br t M' yy a ta wa .non (S++sa_) bh bi->R (mn!).nm M')
  (hB:¬Gd W x i->∀M',HQ t M' yy a ta wa S kl ca W->R nN! M'):Qm t sb! M R:=by
 obtain⟨k,hk⟩:=q.k;show"#+";refine c9p (b:=H!) (c:=x) (d:=V_) (e:=fn_) rfl rfl rfl rfl n!;refine nW (a8r (b:=H!) (c:=x) (d:=V_) rfl rfl rfl (a9a h q.i0 q.i1 hk q.s (λhx i0 i3 M1 o rl hA=>?_) λg M1 J fr=>b8w ?_))
 .unfold Bj;refine a8s cg_ sb_ (c3a hA.2.1 hH (b3b hr hx) hl λM' bh bi d8=>?_);exact aT (ρ:=[A_,bJ_,some ak_,some fo!,some (mn!).nm,none]) (f:=Aa 4) rfl _ (hG r8_ M' bh bi d8)
 .show Bj aN_ [none,none,none,none,some nN!,none] M1 _;exact dJ aC_ (hB g M1 J)
def a4c:∀{xs:b!} {k:Nat} {h:Int} {x:D},(k:Int)<=h->xs[(h - k).toNat]?=some x->kget ((xs.zipIdx k).map λq=>f4_) fR!=some x
 |[],k,h,x,_,e=>by simp at e
 |y::xs,k,h,x,hk,e=>by
  rw[QS,IE];unfold kget;by_cases c:(k:Int)=h
  .rw[IB (by rw[c])];rw[<-c,Int.sub_self]at e;exact e
  .rw[IF λz=>c lp!];refine a4c a! ?_;rw[show(h - (k:Int)).toNat=(h - Ae_).toNat+1 by omega,List.getElem?_cons_succ]at e;exact e
def b9a{R:r_}(hA:ak!)(hH:ay_)(hS:bx_)
  (hR:∀M',kE_->R l4! M'):Se t [H!,.lst (iC!).flatten] M R:=by
 refine n!;refine jI ?_;refine⟨U_,cL_⟩;have fr:∀b,M b≠none->mup M p (.dct sd! (iC!).flatten.length) b=M b:=λb hb=>mup_ne (dP hb hp);have rg:=hA.keep fr;unfold Bj Da Fz;refine oC cg_ (pR rg hH hS) _ ?_;have pm:(dx!).Perm S:=bV S;refine⟨by rw[IP,pm.length_eq];unfold big;omega,?_⟩;refine dI (λd=>true) id trivial _ _ cG! ?_
 .obtain⟨o,ho,rfl⟩:=IU.mp hd;have hf:=hH.op o (pm.mem_iff.mp ho);have hb:=hf.hh;have J:=hf.n1;refine⟨[K!,af!],rfl,pO_,λ_ K hK=>by rw[cF (f:=Aa 0) (d:=o.v) rfl];exact hK⟩;have hg:(kget sd! cb!).getD F_=.int 0:=by
   rw[a4c (k:=0) (x:=bg_) a! (by obtain z|z|z:=hb<;>rw[z]<;>rfl)];rfl
  have e:Ks (.int o.n) F_=some B!:=by
   show some (D.bl (decide (0<o.n)))=_;rw[IY a!]
  exact zP (eS lt_ (oA id! (aT hI!) hG! mup_same (k:=h9!) rfl hg) e) K hK
 .rw[RI,KQ.mpr λ_ _=>rfl];exact hR _ fr
def rT{r:Ad}{ft:W_}{p:Op->Bool}(hf:∀o:Op,ft f3!=some (p o)):∀(os:h!),Dz L! ft q! iC_ aw_=some sf!
 |[]=>rfl
 |o::os=>by
  have ih:=rT hf os;have e1:Bf 0 o.v iC_=some f3!:=rfl;have e2:Aa 0 f3!=some o.v:=rfl;rw[IE];unfold Dz;rw[e1];show((ft f3!).bind λb=>if b then(Aa 0 f3!).bind λy=>(Dz L! ft q! iC_ aw_).map (y::·)else Dz L! ft q! iC_ aw_)=_;rw[hf,e2,ih];show(if p o=true then some (o.v::(os.filter p).map Op.v)else some sf!)=_;cases c:p o with
  |true=>rw[A!,KD c];rfl
  |false=>rw[T_,KF (by simp[c])]
def c0q(hH:ay_)(hl:bx_):Vv Pf [dB_,h3_,d] M (.tup [h3_,mi_,.int iy!,d]):=λK hK=>by
 refine n!;have hc:Pu vH! [some et_,f3_,fp!,none] M si_:=λK hK=>by
  show(et!).length<=big/\_;refine sj_;refine dI fz! (λd=>match d with|.tup [_,_,z,_]=>z|_=>.non) trivial _ _ cG! ?_
  .obtain⟨o,_,rfl⟩:=IU.mp hd;exact⟨[K!],rfl,hF_,λ_ K hK=>aT (ρ:=[K!]) (f:=f2 Aj q! aM_) (a6y o) _ hK⟩
  .rw[hF!,JU];rw[JU]at hK;exact hK
 refine eP hc ?_;have e1:Fv 1 [1] eI_ L! (fT gJ!) q! iE_=some (.lst sl!):=by
  have e:=rT (r:=[f3_]) (ft:=fT gJ!) (p:=λo=>decide (o.h=yy)) (λo=>by
   have:f2 Bb aE_ w! [K!,f3_]=some (.bl (o.h==yy)):=bS hI! rfl (sQ _ _);unfold fT;rw[this];rfl) S
  show(if(et!).length<=big then Option.map D.lst (Dz _ _ _ [none,f3_] et!)else none)=_;rw[IB ec_,e];rfl
 have e2:f2 An w_ vH_ iE_=some (.int (1+f1_)):=bS rfl ((b1c (a1z e1)).trans (show some (D.int ((sl!).length:Nat))=_ by rw[IP])) rfl;have e3:f2 An w_ vI! iE_=some (.int iy!):=by
  have J:f2 An D_ vI_ iE_=some (.lst ((rV_).map D.int)):=bS rfl rfl (by
   show e7_=_;rw[sm_,IZ];rfl)
  exact bS rfl ((b1c (a1z J)).trans (b0p b_)) rfl
 exact dJ (aT (yY (bL rfl (bL e2 (bL e3 fl_))) rfl)) hK
def Hist.fl{U:h!}(h:Hist U)(k0:Int):Hist so!:=by
 refine⟨λk=>?_,λo ho=>h.op o (mv_).1⟩;have e:hs so! k=if k=k0 then[]else hs U k:=by
  unfold hs;rw[QA];split
  .rename_i c;exact QV.mpr λo _=>by simp[c]
  .rename_i c;exact OC λo _=>by
    by_cases z:o.h=k
    .simp[z,c]
    .simp[z]
 rw[e];split
 .exact .nil
 .exact h.ch k
end
def c7a{p:cQ!}(h:∀x,∀d∈p.2 x,∃i:Int,d=.int i):∀x,∀e∈(pF p n d).2 x,∃i:Int,e=.int i:=by
 unfold pF;split
 .unfold pG;split
  .intro x e he;have he:e∈(if x=n then[.int 0,.int 0,.int 0,.int 0]else p.2 x):=he;split at he
   .simp only[HV,JJ,LH,or_self]at he;exact⟨0,he⟩
   .exact h x e he
  .split
   .split
    .rename_i a q v;split
     .intro x e he;have he:e∈(if x=a then(p.2 a).set q.toNat fo! else p.2 x):=he;split at he
      .exact(List.mem_or_eq_of_mem_set he).elim (h a e) λz=>⟨v,z⟩
      .exact h x e he
     .exact h
    .exact h
   .exact h
 .exact h
def b6b:∀(os:h!) (p:cQ!),(∀x,∀d∈p.2 x,∃i:Int,d=.int i)->∀x,∀e∈(os.foldl it_ p).2 x,∃i:Int,e=.int i
 |[],p,h=>h
 |o::os,p,h=>b6b os _ (c7a h)
def c0p{W:OW}{os:h!}(hr:Pb W0 os W){x:D}{i:Int}:Az iA_=true/\Gx iA_<=40:=by
 unfold Nr;split
 .rw[OH];cases e:cu_[i.toNat]? with
  |none=>exact iG!
  |some d=>
   have hn:W.num=(os.foldl it_ rM!).2:=congrArg Prod.snd (pY hr);have hd:=NH e;rw[hn]at hd;obtain⟨j,rfl⟩:=b6b os _ (λx d hd=>by cases hd) x d hd;exact iG!
 .exact iG!
def nes{M:Mh}(h:b4!)(hd:Gx d<=40):Vr M d d=some ab!:=by
 have hr:Wj M d=d:=by cases d<;>first|rfl|cases h
 unfold Vr Er;rw[hr,h,pM d h,IY hd];rfl
def c7c{S:h!}(hH:∀o∈S,DG o.d):Az et_=true/\Gx et_<=40:=by
 have h:∀d∈S.map Op.v,Az d=true/\Gx d<=5:=λd hd=>by obtain⟨o,ho,rfl⟩:=IU.mp hd;exact b0i (hH o ho)
 refine⟨qL λd hd=>(h d hd).1,?_⟩;show Dm et!+1<=40;have:=vM (n:=5) λd hd=>(h d hd).2;omega
def c9w{x:D}{i:Int}(h:Cb x)(i0:-1<=i)(i1:i<=5):Zf x i:=by
 refine⟨cD h,?_,i0,i1⟩;obtain rfl|rfl|⟨a,b,rfl,J,h2,h3,h4⟩:=h
 .show _<=1000;decide+kernel
 .show _<=1000;decide+kernel
 .exact⟨c7v a!,c7v a!⟩
section
variable{t:Ar}{M M':Mh}{ρ:Ad}{yy:Int}{a ta wa w:xz!}{out:D}{S:List Op}{kl:List Int}{ca:Int->Addr}{W V:OW}{x:D}{i:Int}{O:Addr->Prop}
def HQ.keep(h:ci!)(k:hV!):HQ t M' yy a ta wa S kl ca W:=by
 cases h with
 |new J h2 h3 h4=>exact .new (J.keep k) h2 h3 h4
 |old h hO=>
  obtain⟨y,p,q,hob⟩:=hO.hob;exact .old mw! ⟨⟨y,p,q,(k a (by rw[hob];simp)).trans hob⟩,hO.out.keep λc hc=>k c (hO.out.live hc)⟩
def HR(t:Ar)(M:Mh)(a ta wa:xz!)(S:h!)(kl:r!)(ca:fO!):Prop:=Br t M 15 a ta wa .non S kl ca\/∃W,HQ t M 15 a ta wa S kl ca W/\Pb W0 cP! W/\Ch W
def HR.go(h:f6!)(k:hV!)(hH:ay_)(hl:bx_)(hr:fY_)(wi:Ch W):∃V,HQ t M' 15 a ta wa S kl ca V/\Pb W0 cP! V/\Ch V:=by
 obtain h|⟨V,h,h2,h3⟩:=h
 .exact⟨W,.new mw! hH hl hr,hr,wi⟩
 .exact⟨V,h.keep k,h2,h3⟩
def a2o{os:h!}(h:Pb W0 os W)(g:Pb W0 os V):W.its=V.its/\Nr W x i=Nr V x i:=by have e:=(pY h).trans (pY g).symm;have e1:W.its=V.its:=congrArg Prod.fst e;have e2:W.num=V.num:=congrArg Prod.snd e;unfold Nr Gd;rw[e1,e2];exact aE!
structure Rd(M:Mh)(a w:xz!)(W:OW)(wt wn:xz!):Prop where
 rt:Ce M bQ_ nC_=some ft_
 rn:Ce M bQ_ nF!=some d8!
 ri:∀{x:D} {k:MK},Df x=some k->Il false M x ft_=some oe_
 rv:∀{M':Mh} {x:D} {k:MK} {i:Int},cP_->Df x=some k->Gd W x i->∃q,Ce M' d8! x=some bO!/\Ce M' bO! ak_=some iA_
def Ca.rd(h:aa!)(wi:Ch W)(ra:¬O a):∃wt wn,Rd M a w W wt wn:=by
 obtain⟨wt,wn,qa,hA⟩:=h;obtain⟨e0,hw⟩:=hA.mw;obtain⟨e1,ht⟩:=hA.mt;obtain⟨e2,hn⟩:=hA.mn;have k:∀{M':Mh} {c:xz!} {y:Cw},cP_->O c->M c=some y->M' c=some y:=λfr hc e=>(fr _ kq! λz=>ra qa_).trans e;refine⟨wt,wn,(AG_).trans k3t,(AH_).trans k3n,λ{x k} hk=>?_,λ{M' x _ i} fr hk g=>⟨qa x,(fA (k fr ((hA.O wn).mpr (.inr fu_)) hn) hk).trans (by rw[jP,IB g.1]),?_⟩⟩
 .rw[b0z ht hk,jP];by_cases c:x∈W.its
  .rw[IB c,IY c];rfl
  .rw[IF c,IG c];rfl
 .have hl:=wi.nl x g.1;have:=g.2;have hq:=hA.mq g.1;simp only[Ce,k fr hq.2 hq.1];unfold Cs Du Nr;rw[ap_,ap_,IB g];show cu_[i.toNat]?=_;rw[OH,IL a!];rfl
def c0h(h:sv_):Bm Ie Ie G! aA_ az_ ρ=some ma_:=by
 unfold Bm;have e:Ie F_ ak_=some (.bl (decide (0<=i))):=rfl;simp only[h,fC,MX,e];by_cases c:0<=i
 .rw[IY c];show some (D.bl (decide (i<=3)))=_;simp[c]
 .rw[IG c];show some (D.bl false)=_;simp[c]
def d0s{ft:WT}{fa fb:WE}{b:Bool}(h:Tx ft ρ M b)(J:b=true->Pu fa ρ M d)(h2:b=false->Pu fb ρ M d):Pu (Zi ft fa fb) ρ M d:=λK hK=>by
 refine h _ ?_;cases b with
 |true=>exact J rfl _ hK
 |false=>exact h2 rfl _ hK
def d2d{g:WF}{f1 f2 f3:e_}{a:D}{K:r_}(J:dY_)(h2:fb_)(h3:kv_)(k:g fJ! M K):Ao 3 g pa_ ρ M K:=by unfold Ao Ab Af;rw[cF J,dn_,cF h3];exact do!
def CZ(t:Ar):WE:=Ao 3 (Jo t) vT!
def neN{fb:WE}{K:d2!}(h:ci!)(wi:Ch W)(q:dB!)(hp:Az d=true/\Gx d<=40)(hd:Nr W x i=d)(e2:Aa 2 ρ=some cp_)(e5:Aa 5 ρ=some x)(e6:sv_)
  (hb:∀M',cP_->Pu fb ρ M' d)(hK:∀M',HQ t M' yy a ta wa S kl ca W->K false M'):wT (w2 Vr (CZ t) fb) ρ M K:=by
 unfold wT w2 CZ;refine d2d e2 e5 e6 (a8x h wi q λM' h' fr=>hb M' fr _ ?_);rw[hd,nes hp.1 hp.2];exact hK M' h'
def d1s{ft:WT}{q1 q:WS}{R:p_}(h:sw_):Ah pz! q ρ M R:=h
def GC(t:Ar):WS:=Ah vW_ (As (Fp gN_ (wT (w2 Vr (CZ t) vX_))) eV_ Bp)
def EY(t:Ar):WS:=Ah vW! (GC t)
def GE(t:Ar):WS:=(Ah (Am 8 nM_)
 (Ah vS!
 (Ah vS_
 (Ah (As (wT (w2 Vr (CZ t) (wl dO!))) eV_ Bp)
 (Ah (Am 10 nN_)
 (Ah (As gN_ (Ah vU!
 (Ah vU_
 vV!)) Bp) (EY t)))))))
def EX(t:Ar):WS:=(Ah vO_
 (Ah vP_
 (Ah vR! (GE t))))
def b5j:Wp t=(Ah vM_
 (Ah (Am 2 je!)
 (Ah (Am 3 jd_)
 (Ah (Ec (Ja (Fj nK_)) gq_ (EX t)) (Bj gr!))))):=rfl
def c1r{f:W_}{ft:WT}(h:f ρ=some false):Tx (Fp (Dd f) ft) ρ M false:=λK hK=>lC h _ hK
def FE(g:bi!)(fb:e_)(ρ:Ad)(K:r_)(x:D)(M:Mh):Prop:=wl fb ρ M λy M2=>match g M2 x y with|some d=>K d M2|none=>False
def d0h{g:bi!}{fo:WE}{fb:e_}{K:r_}(h:fo ρ M (FE g fb ρ K)):w2 g fo kD! ρ M K:=h
def b4m{g:bi!}{fb:e_}{K:r_}{x:D}(hb:fb ρ=some y)(hg:zL!)(k:K d M):FE g fb ρ K x M:=by unfold FE;rw[cF hb,hg];exact k
variable{s:D}{y1 y4 y7 y8 y9 y10 y11 y12:Option D}{v:Int}{R:Fl->Mh->Prop}
nonrec def lE(s:D)(y1:am_)(a:xz!)(S:h!)(y4 y5 y6 y7 y8 y9 y10 y11 y12:am_):Ad:=[b6!,y1,A_,some et_,y4,y5,y6,y7,y8,y9,y10,y11,y12]
def c7z{g:Bool}(h:f6!)(hH:ay_)(hl:bx_)(q:dB!)(hg:g=true->∀W,Pb W0 cP! W->Gd W x i)
  (hR:∀M' y11,HR t M' a ta wa S kl ca->R (.nx sA!) M'):GC t sA! M R:=by
 have la:M a≠none:=by
  obtain h|⟨_,h,_⟩:=h
  .rw[h.ob];simp
  .obtain⟨o,h⟩:=h.hd;rw[h.ob];simp
 obtain⟨k,hk⟩:=q.k;refine jI (d0h (yO (a:=dB_) rfl (a5r hH.keys hH.names hl sA_ λw M1 rl W _ hr hL ⟨pre,hw⟩ bo fr=>?_)));obtain⟨wt,wn,rd⟩:=hL.rd hw.inv (fr a la).2;obtain⟨V,hq,hv,vi⟩:=h.go sB! hH hl hr hw.inv;refine b4m (y:=p1!) rfl rd.rn ?_;show As _ _ _ (lE s y1 a S y4 bz! cS_ y7 y8 sz_ y10 (some d8!) y12) M1 _;cases g with
 |false=>exact tI (c1r rfl) (hR M1 _ (.inr ⟨V,hq,hv,vi⟩))
 |true=>
  unfold As Fp;refine lC (b:=true) rfl _ ?_;refine neN hq vi q (c0p hr) (a2o hv hr).2 rfl rfl rfl (λM' u7=>?_) (λM' h'=>hR M' _ (.inr ⟨V,h',hv,vi⟩));obtain⟨p,i1,i2⟩:=rd.rv u7 hk (hg rfl W hr);exact eS (eS (aT (d:=.fn wn) rfl) ir! i1) sE! i2
def d2g{R:r_}(h:HQ t M 15 a ta wa S kl ca W)(hH:ay_)(hl:dA_)(hr:fY_)(wi:Ch W)(q:dB!)
  (hR:∀M' bh bi,HR t M' a ta wa (aftP W S 15 x i v) bh bi->R (Qq W S 15 x i v) M'):Qm t sb! M R:=by
 refine c4v h hH hl hr q (λg M' bh bi h'=>?_) λg M' h'=>?_
 .have:=hR M' bh bi;rw[Qq,aftP,IB g,IB g]at this;exact this (.inl h')
 .have:=hR M' kl ca;rw[Qq,aftP,IF g,IF g]at this;exact this (.inr ⟨W,h',hr,wi⟩)
def HR.hd(h:f6!):∃out,Br t M 15 a ta wa out S kl ca:=by
 obtain h|⟨_,h,_⟩:=h
 .exact mm_
 .exact h.hd
def HR.keep(h:f6!)(k:hV!):HR t M' a ta wa S kl ca:=by
 obtain h|⟨V,h,h2⟩:=h
 .exact .inl mw!
 .exact .inr ⟨V,h.keep k,h2⟩
def GK(ft:WT)(q1 q:WS)(ρ:Ad)(R:p_)(d:D)(M:Mh):Prop:=match d with
 |.bl b=>(if b then(if true then q1 ρ M iH_ else q ρ M R)else ft ρ M λb M1=>if b then q1 ρ M1 iH_ else q ρ M1 R)
 |_=>False
def c6h{fa:WE}{ft:WT}{q1 q:WS}(h:fa ρ M (GK ft q1 q ρ R)):Ah (As (Zh (wT fa) ft) q1 Bp) q ρ M R:=h
def d0w{ft:WT}{q1 q:WS}(h:sw_):GK ft q1 q ρ R ab! M:=h
def c6o:Pu vV_ ρ M (.lst (iC!).flatten):=λK hK=>⟨U_,xM!,hK⟩
def c8a(h:HQ t M 15 a ta wa S kl ca V)(hH:ay_)(hl:dA_)(hr:Pb W0 cP! V)(wi:Ch V)(q:dB!)(hS:Hist a5_)(oy:(a5_).length<64)(hg:Gd V x i->∀W,Pb W0 (Lp (Jb .str (Ey a5_) []) (Ey a5_)) W->Gd W x i)
  (hR:∀M' bh bi y9 y10 y11,HR t M' a ta wa a5_ bh bi->R (.nx (lE s y1 a a5_ y4 bz! cS_ ew! y8 y9 y10 y11 y12)) M'):EY t (lE s y1 a a5_ y4 bz! cS_ ew! y8 sG! (some iJ_) y11 y12) M R:=by
 have pl:Az iJ_=true/\Gx iJ_<=40:=by
  unfold Qq;split
  .exact⟨rfl,by show Dm [fX_,fX_]+1<=40;simp[Dm,Gx]⟩
  .exact iG!
 refine c6h (d0h (a5m (a:=H!) (b:=x) (c:=V_) (d:=fn_) rfl rfl rfl rfl (d2g h hH hl hr wi q λM1 kl1 ca1 J=>b4m (y:=Qq V S 15 x i v) rfl (nes pl.1 pl.2) (d0w ?_))));obtain⟨o,hA⟩:=J.hd;unfold wT w2;refine a8s cg_ c6o (b9a hA hS oy λM2 fr=>?_);refine yO (a:=.lst ((a5_).map Op.v)) rfl (nH hS.keys oy ?_);obtain⟨p1,p2⟩:=c7c (S:=Ey a5_) λo ho=>(hS.op o ((bV _).mem_iff.mp ho)).dg
 rw[nes p1 p2];exact c7z (J.keep fr) hS oy q (λe=>hg (KC e)) λM' y11 h'=>hR M' kl1 ca1 _ _ y11 h'
def c6d{ft:WT}{q1 q:WS}(h:zN_)(k:q1 ρ M iH_):Ah pz! q ρ M R:=h _ k
def b5z{B:Int}(hH:ay_)(hl:dA_)(hB:mA_)(b0:0<=B)(b1:B<=900)(hx:Cb x)(i0:0<=i)(i3:i<=3)(hv:io!):Hist ex_:=by have:=b7i b0 hB;have l:=a1i S 15;have m0:0<=Sk S:=a7o (HZ _ oJ!);exact hH.snoc ⟨.inr gv!,by show 1<=1+Sk S;omega,by show 1+Sk S<=1000;omega,by show 1<=1+sJ_;omega,by show 1+sJ_<=2000;omega,.set hx i0 i3 hv⟩ (Int.add_comm _ _) λo ho _=>by have:=a0c ho;show o.tm<1+Sk S;omega
def c9z{B:Int}(hH:ay_)(hl:dA_)(hB:mA_)(b0:0<=B)(b1:B<=900)(hx:Cb x)(hv:io!):Hist a5_/\(a5_).length<=cK_+1/\∀o∈aftP V S 15 x i v,o.tm<=B+1:=by
 unfold aftP;split
 .rename_i g;refine⟨b5z hH hl hB b0 b1 hx g.2.1 g.2.2 hv,Q!,λo ho=>?_⟩;obtain z|z:=II.mp ho
  .have:=hB o z;omega
  .rw[ef!];have:=b7i b0 hB;show 1+Sk S<=B+1;omega
 .exact⟨hH,s_,λo ho=>by have:=hB o ho;omega⟩
def d0a{B:Int}(hH:Hist ex_)(hr:Pb W0 cP! V)(g:Gd V x i)(hW:Pb W0 (Lp (Jb .str (Ey ex_) []) (Ey ex_)) W):Gd W x i:=by refine⟨?_,g.2⟩;have e1:W.its=(BX ex_).1:=congrArg Prod.fst (pY hW);have e2:V.its=(BX S).1:=congrArg Prod.fst (pY hr);rw[e1,b8q (u:=Tv S 15 x i v) hH.keys (λo ho=>by have:=a0c ho;show o.tm<1+Sk S;omega) rfl,<-e2];exact g.1
def c8b{B:Int}(h:f6!)(hH:ay_)(hl:dA_)(hB:mA_)(b0:0<=B)(b1:B<=900)(hx:Cb x)(i0:-1<=i)(i1:i<=5)(hv:io!)
  (hR:∀M' S' bh bi y8 y9 y10 y11 y12,HR t M' a ta wa S' bh bi->Hist S'->S'.length<=cK_+1->(∀o∈S',o.tm<=B+1)->R (.nx (lE s y1 a S' y4 bz! cS_ ew! y8 y9 y10 y11 y12)) M'):GE t (lE s y1 a S y4 bz! cS_ ew! y8 y9 y10 y11 y12) M R:=by
 have q:=c9w hx i0 i1;obtain⟨k,hk⟩:=q.k;obtain⟨o,hA⟩:=h.hd;refine jI (yO (a:=dB_) rfl (a5r hH.keys hH.names a! sA_ λw M1 rl W _ hr hL ⟨pre,hw⟩ bo fr=>?_));obtain⟨wt,wn,rd⟩:=hL.rd hw.inv (fr a fP_).2;obtain⟨V,hq,ze,vi⟩:=h.go sB! hH a! hr hw.inv;have sa:=a2o (x:=x) (i:=i) ze hr;have eg:Gd W x i↔Gd V x i:=by unfold Gd;rw[sa.1]
 show Ah _ _ (lE s y1 a S y4 bz! cS_ ew! (some bQ_) y9 y10 y11 y12) M1 _;refine eP (d:=.bl sE_) (a9s (b:=decide e4!) (eS ir! (eS p0_ (aT (d:=.str "texts") rfl) rd.rt) (rd.ri hk)) pY_ λe=>?_) ?_
 .have e':=KC e;have:decide mz!=decide ma!:=by
   rw[LR,JC,JC,<-eg];exact⟨λz=>z.2,λz=>⟨e',z⟩⟩
  rw[this];exact aT (c0h rfl)
 .exact IG λz=>MZ e (eg.mpr z).1
 refine eP (d:=Nr W x i) (d0s (b:=decide mz!) ia_ pY_ λe=>?_) ?_
 .have g:=eg.mpr (KC e);obtain⟨p,j1,j2⟩:=rd.rv (λ_ _ _=>rfl) hk g;exact eS (eS (eS p0_ AZ! rd.rn) ir! j1) sE! j2
 .rw[Nr,IF λz=>MZ e (eg.mp z)];exact aT rfl
 refine d1s (neN hq vi q (c0p hr) sa.2 rfl rfl rfl (λM' _=>aT rfl) λM2 h2=>?_);rw[T_];refine fJ (d:=.str "refused") rfl ?_;obtain⟨a1,a2,a3⟩:=c9z (V:=V) (i:=i) hH hl hB b0 b1 hx hv;have oy:(a5_).length<64:=by omega
 have go:∀{y12:am_},EY t (lE s y1 a a5_ y4 bz! cS_ ew! (some bQ_) sG! (some iJ_) y11 y12) M2 R:=λ{y12}=>c8a h2 hH hl ze vi q a1 oy (λg W' hW=>by
  rw[aftP,IB g]at a1 hW;exact d0a (B:=B) a1 ze g hW) λM' bh bi y9 y10 y11 h'=>hR M' _ bh bi _ y9 y10 y11 _ h' a1 a2 a3
 by_cases g:Gd V x i
 .rw[aftP,Qq,IB g,IB g]at go;rw[IY g]at go ⊢;refine c6d ia_ ?_;refine eP (b5p (aT (d:=dB_) rfl) (aT (d:=hO!) rfl) sb_ (c0q hH a!)) ?_;refine fJ (d:=(iM_).nm) (a9g iM_) ?_;unfold Am;have ea:An et_ (.lst [(iM_).v])=some (.lst ((ex_).map Op.v)):=by
   show e7_=_;rw[sm_,IZ];rfl
  rw[cF (bS (x:=dB_) (y:=.lst [(iM_).v]) rfl rfl ea)];exact go
 .rw[aftP,Qq,IF g,IF g]at go;rw[IG g]at go ⊢;exact jS ia_ go
def a7p{f:e_}{m k:Int}(h:f ρ=some cz_)(hk:0<k):f2 Bo f (fC er!) ρ=some (.int (m%k)):=bS h rfl (uK hk)
structure LI(t:Ar)(s:D)(a ta wa:xz!)(j:Nat)(ρ:Ad)(M:Mh):Prop where
 e:∃S kl ca y1 y4 y5 y6 y7 y8 y9 y10 y11 y12,ρ=lE s y1 a S y4 y5 y6 y7 y8 y9 y10 y11 y12/\HR t M a ta wa S kl ca/\Hist S/\cK_<=8+j/\∀o∈S,o.tm<=24+j
def c7q{j:Int}:De (.int 4) b4_=some (.int (4*j)):=rfl
def turn{ns:r!}{j:Nat}{k:Int}(hj:j<6)(h:LI t d0_ a ta wa j ρ M)(hR:∀ρ' M',LI t d0_ a ta wa bS_ ρ' M'->R bP! M'):EX t (ρ.set 4 (some er!)) M R:=by
 obtain⟨S,kl,ca,y1,y4,y5,y6,y7,y8,y9,y10,y11,y12,rfl,h,hH,hl,hB⟩:=h.e;have ho:∀o∈S.map Op.v,Ul o:=λo ho=>by obtain⟨x,hx,rfl⟩:=IU.mp ho;exact(hH.op x hx).ok
 obtain⟨its,ei,il,_,hi⟩:=a4f ho (by rw[IP];omega);obtain⟨m,em,_,_⟩:=gR ns (k:=30+4*k);obtain⟨x,ex,hx⟩:=jW (xs:=its) (n:=m) λz=>by rw[z]at il;simp at il
 obtain⟨m2,em2,_,_⟩:=gR ns (k:=31+4*k);obtain⟨c,ec⟩:=b1m ns (32+4*k);have hm:=LB m2 (b:=7) c!;have kz:=KI m2 (b:=7) c!;have hc:=LB c (b:=10 ^ 20) c!;have ii:=KI c (b:=10 ^ 20) c!;refine fJ (d:=x) (iQ (bL (iQ fl_ ei) (bL (iQ mI! em) rfl)) ex) ?_;refine fJ (d:=.int (m2%7 - 1)) (bS (a7p (iQ mI! em2) c!) rfl rfl) ?_;have e20:Fi mP! (.int 20)=some (.int (10 ^ 20)):=by kernel_rfl
 refine fJ (d:=.int (c%10 ^ 20 - 1000)) (bS (bS (iQ mI! ec) (bS rfl rfl e20) (uK c!)) rfl rfl) ?_;exact c8b (B:=24+j) (s:=b6_) (y1:=y1) (y4:=some er!) (y8:=y8) (y9:=y9) (y10:=y10) (y11:=y11) (y12:=y12) h hH a! hB a! a! (hi x hx) a! a! a! λM' S' bh bi y8 y9 y10 y11 y12 h' hH' l' b'=>hR _ M' ⟨S',bh,bi,_,_,_,_,_,_,_,_,_,_,rfl,h',hH',s_,λo ho=>by have:=b' o ho;omega⟩
def c5o{ns:r!}:∀(ks:r!) (j:Nat) (ρ:Ad) (M:Mh) (R:p_),LI t d0_ a ta wa j ρ M->j+hh_<=6->(∀ρ' M',R bP! M')->Ih gq_ aj! (EX t) rv! ρ M R
 |[],j,ρ,M,R,h,_,hR=>⟨trivial,hR ρ M⟩
 |k::ks,j,ρ,M,R,h,hj,hR=>by
  rw[IH]at hj;exact⟨trivial,turn a! h λρ' M' h'=>c5o ks bS_ ρ' M' R h' a! hR⟩
def c0s{ns:r!}{N:Nat}{R:r_}(nd:t.nd)(hN:N<=8)(hR:∀a ta wa S kl ca M',Br t M' 15 a ta wa .non S kl ca->Hist S->cK_<=8->(∀o∈S,o.tm<=24)->R mK! M'):Pg t [b6_,bg_,hO!,.int N] M R:=by
 obtain⟨os,ew,hl,hH,hB⟩:=b1p ns 0 N a!;refine n!;have hc:Pu vF_ s1_ M (.lst mL_):=λK hK=>by
  have e:Ei vF! s1_=some aw_:=by
   unfold Ei;rw[iQ (bL rfl hQ_) ew];rfl
  unfold Da Ja;rw[e];refine iJ sj_;refine dI (λd=>match d with|.tup (.int h::_)=>!decide (h=15)|_=>false) id trivial _ _ cG! ?_
  .obtain⟨o,ho,rfl⟩:=IU.mp hd;refine⟨iQ!,rfl,λK hK=>lC (ρ:=iQ!) (b:=!decide in_) ?_ _ hK,λ_ K hK=>aT (ρ:=iQ!) (f:=Aa 0) (d:=o.v) rfl _ hK⟩;have:f2 Er aE_ w! iQ!=some (.bl (!decide in_)):=bS hI! rfl rfl;show"!t"
  .rw[RI,SN];exact hK
 refine eP hc ?_;refine jI (b3f rfl λa ta wa M1 hA=>?_);have hF:=hH.fl 15;have hlf:(s0_).length<=8:=by have:=PM (λo:Op=>!decide in_) os;omega
 refine nW (yN (a:=H!) (b:=.lst mL_) rfl rfl (c1b nd hA (by rw[KP];exact hF) (λo ho=>by simpa using(mv_).2) (by rw[KP];omega) λM2 kl ca v3=>?_));rw[KP]at v3;exact dJ (zO cg_ (aT (d:=.lst mL_) rfl)) (hR a ta wa _ kl ca M2 v3 hF hlf λo ho=>by have:=hB o (mv_).1;omega)
def b8d{ns:r!}(nd:t.nd):Yy t lj! M0 (λd _=>d=.bl true):=by
 obtain⟨m,em,m0,_⟩:=gR ns (k:=60);have hN0:0<=m%9:=LB _ c!;have ZU:m%9<9:=KI _ c!;obtain⟨N,hN⟩:∃N:Nat,(N:Int)=m%9:=⟨(m%9).toNat,s_⟩;obtain⟨n,en,n0,_⟩:=gR ns (k:=61);have hK0:0<=n%6:=LB _ c!;have hK1:n%6<6:=KI _ c!;obtain⟨k,hk⟩:∃k:Nat,(k:Int)=n%6:=⟨(n%6).toNat,s_⟩;refine n!;rw[b5j];have e1:=a7p (ρ:=[ae_,none,none,none,none,none,none,none,none,none,none,none,none]) (f:=f1 Bn vM!) (iQ hQ_ em) (k:=9) c!;rw[<-hN]at e1;refine jI (a5m (a:=b6_) (b:=bg_) (c:=hO!) (d:=.int N) rfl rfl rfl e1 (c0s nd a! λa ta wa S kl ca M1 hA hH hl hB=>?_));refine fJ (d:=H!) rfl ?_;refine fJ (d:=dB_) rfl ?_;have e2:=a7p (ρ:=lE d0_ (some mK!) a S none none none none none none none none none) (f:=f1 Bn vO!) (iQ hQ_ en) (k:=6) c!;rw[<-hk]at e2;have e3:Fj nK_ s5!=some (((ts!).map λi=>k0_).map D.int):=by
  unfold Fj;rw[e2];show(if _ then some (Cy k)else none)=_;rw[ap_,JU];rfl
 show Ah (Ec _ _ _) _ s5! M1 _;unfold Ah Ec Ja;rw[e3];exact c5o (ta:=ta) (wa:=wa) _ 0 _ M1 _ ⟨S,kl,ca,_,_,_,_,_,_,_,_,_,_,rfl,.inl hA,hH,hl,hB⟩ a4! λρ' M'=>dJ (aT (d:=eo!) rfl) rfl
end
end K22
namespace K22
open PySem L2 DL
section
variable{P:z7!}{w:yO!}{K:zY!}{mg:Str->Option Value}{base:Heap}{t:Ar}
def lH(T:i!):Ok P w K mg base 1 "is_whole" p! (Fs):=
 dZ (ae:=[]) (k:=0) T.D3 a2i (λhr=>(bC (bP (kK (kI c3j rfl T.R3 rfl T.R0 cI c9t B_) (kK (c9f (kI b8s rfl T.R3 rfl T.Q7 cI c4r B_)) (gU (fF b0j b0k (bY c0l c9n rfl T.Q5 c9u bV_) rZ! u!)))))))
def iM(T:i!):Ok P w K mg base 2 "is_from_one" p! (Dq):=
 dZ (ae:=[]) (k:=1) T.D5 tN (λhr=>(bC (bP (kK s6_ (gU (fF d0z d1b B_ aB u!))))))
def lI(T:i!):Ok P w K mg base 2 "is_below" f8! (Gu):=
 dZ (ae:=[]) (k:=1) T.D4 a2k (λhr=>(bC (bP (kK s6_ (gU (vN jB jC b0j b0k aB B_ S!))))))
def iL(T:i!):Ok P w K mg base 3 "is_name" p! (Dw):=
 dZ (ae:=[]) (k:=2) T.D6 a6j (λhr=>(bB mS_ (bC (bP (kK (aP (lI T) d_ rfl (aD ba! (aD (gP T.S3 rfl) aK)) ag_) (gU tb!))))))
def kN(T:i!):Ok P w K mg base 4 "is_sign_name" p! (Dv):=
 dZ (ae:=[]) (k:=3) T.D7 rX (λhr=>(bB mS_ (bC (bP (kK tb_ (gU (aP (lI T) d_ rfl (aD ba! (aD mT_ aK)) ag_)))))))
def a7f(T:i!):Ok P w K mg base 4 "is_item" p! (Gs):=
 dZ (ae:=[]) (k:=3) T.D8 a6k (λhr=>(bC (bP (yJ tc_ (yJ td! (gU td!))))))
def wC(T:i!):Ok P w K mg base 4 "is_sibling" p! (Fa):=
 dZ (ae:=[]) (k:=3) T.D9 vX (λhr=>(bC (bP (yJ te! (gU tc_)))))
def zT(T:i!):Ok P w K mg base 5 "is_behind" p! (Fu):=
 dZ (ae:=[]) (k:=4) T.E1 zG (λhr=>(bC (bP (yJ te! (gU (aP (kN T) d_ rfl bV_ as_))))))
def a7e(T:i!):Ok P w K mg base 1 "is_sign" dD_ (Gq):=
 dZ (ae:=[]) (k:=0) T.E2 a6h (λhr=>(bC (bP (kK (vN jB jC jB jC aR B_ aR) (gU (fF xH xJ (bY c0i c9m rfl T.R7 c9s bV_) (gP T.S6 rfl) u!))))))
def a7d(T:i!):Ok P w K mg base 2 "is_text" p! (Jl):=
 dZ (ae:=[]) (k:=1) T.E3 a6g (λhr=>(bB (gL (vK (yF (fZ (eJ (kI a1b rfl T.R3 rfl T.S0 cI a8t B_))) (qY (fZ (b9q jB jC jB jC aB gg! mT_))))) eD_ dO) (bC (bP (bY (vR rfl) a8q rfl T.Q6 a8u (aD (kJ (NL:=dD_) (NF:=[]) (ix:=[]) rfl c! j_ (cE (sc:=Ae Mt) rfl j_) Do.nil c! rfl (c9b B_) (λ_ _ _ _ _=>bH (i:=0) (show(dD_:List Str).Nodup by decide+kernel) rfl a_) aG! gj! (λ_ _ _ _ _=>(aP (a7e T) d_ rfl bV_ as_))) aK))))))
def rJ(T:i!):Ok P w K mg base 3 "is_place" p! (Dp):=
 dZ (ae:=[]) (k:=2) T.E4 a2j (λhr=>(bC (bP (aP (lI T) d_ rfl (aD B_ (aD (gP T.S5 rfl) aK)) ag_))))
def gX{g:ac_}{ps:o!}{k:Nat}(h:Ok P w K mg base k x ps g)(hm:mg x=some be!)(hp:R_=1)(hk:k<=5):∃fd ps,R_=1/\Fk P w K mg base Pd 5 ag fd ps jV!/\Ex K fd ps []/\W.keepIn K be!=true:=by obtain⟨f',fd,J,h2,h3,h4⟩:=h;rw[hm]at h3;cases h3;exact⟨fd,ps,hp,J.mono hk,h2,h4⟩
def c3r(T:i!):Zd P w K mg base 5 1 (Kr t):=by
 intro ag g e;unfold Kr at e;show"!8"
 .show"!6";exact gX (a7f T) T.S8 rfl c!
 show"!8"
 .show"!6";exact gX (wC T) T.S9 rfl c!
 show"!8"
 .show"!6";exact gX (zT T) T.T0 rfl c!
 show"!8"
 .show"!6";exact gX (a7d T) T.T1 rfl c!
 show"!8"
 .show"!6";exact gX (kN T) T.T2 rfl c!
 show"!8"
 .show"!6";exact gX (iM T) T.T3 rfl c!
 show"!8"
 .show"!6";exact gX (rJ T) T.T4 rfl c!
 show"!8"
 .show"!6";exact gX (lH T) T.T5 rfl c!
 show"!8"
 .show"!6";exact gX (iL T) T.T6 rfl c!
 cases e
def gZ(T:i!):Ew P w K mg base 1 t.B5 "have" gc! gv_:=
 cW (ae:=[]) (k:=0) T.T7 T.K7 zK (λhr=>(aG (bR (uP cO c0f rfl T.R4 dY (aE (oW u_ dH_ v! mV! cl_) aO)))))
def a7i(T:i!):Vy P w K mg base 1 "Hand" t.B5 gb_ (Oi t):=
 zW (ae:=[]) (k:=0) T.K6 a6m (λhr=>(aF (fS T.T7 T.V3 n_ v!) (aF (fS T.T7 T.V4 n_ eZ) (aF (fS T.T7 T.V5 n_ (a0g aO)) tk!))))
def a3k(T:i!):Ok P w K mg base 1 "_law_cell" cU! (Jy):=
 dZ (ae:=[]) (k:=0) T.O4 b4z (λhr=>(bB (gL (a4z B_) tk_ dO) (bC (bP aB))))
def eK(T:i!):Ok P w K mg base 2 "_law_mix" cU! (Bn):=
 dZ (ae:=[]) (k:=1) T.O5 zJ (λhr=>(bB (fE (i:=2) zJ.nd rfl a_ (aS eB eC (aS aN bE (aP (a3k T) d_ rfl (aD B_ gk_) ag_) (aS jY jZ aB tz!)) aB)) (bB (fE (i:=2) zJ.nd rfl a_ (aS eB eC (aS jY jZ aH! aB) aB)) (bC (bP (aS eB eC (aS aN bE (aS jY jZ (aS mH mI aH! aB) aB) aH!) aB))))))
def xK(T:i!):Ok P w K mg base 1 "_law_items" az! (Ia):=
 dZ (ae:=[]) (k:=0) T.O6 b2e (λhr=>(bC (bP (aS aN bE (aS aN bE tm_ (kJ (NL:=cZ_) (NF:=[]) (ix:=[]) rfl c! j_ (cE (sc:=Ae Oc) rfl j_) Do.nil c! rfl eJ! mY! aG! (λ_ _ _ _ _=>c5e (bM aF_ cB mY_ aR u!)) tn_)) (gV (n:=12) rfl)))))
def b2w(T:i!):Ok P w K mg base 1 "_law_signs" az! (Lm):=
 dZ (ae:=[]) (k:=0) T.O7 mG (λhr=>(bB (qZ (i:=1) mG.nd rfl a_ (aD dD (aD to! aK))) (bB (a8i JP rfl eJ! mG.nd rfl a_ (bC (gL (bM aF_ cB iZ! aR u!) (bC (a8i JP rfl (gM rfl T.R8 (bY cO eF rfl T.R4 dY (aD iZ! aK))) mG.nd rfl a_ (bC (yI (i:=1) c! (cP (aD aW_ (aD aW_ eG_))))))) dO))) (a5a (bC (bP S!))))))
def b6w(T:i!):Ok P w K mg base 1 "_law_text" mG! (Nm):=
 dZ (ae:=[]) (k:=0) T.O8 a2m (λhr=>(bB (fE (i:=2) a2m.nd rfl bd_ aR) (bC (bP (c4f aR (kJ (NL:=[a7_]) (NF:=[cU_,mF_]) (ix:=[0,2]) rfl c! j_ (cE (sc:=Ae Pq) rfl j_) (Do.cons (j:=0) i0_) c! rfl (gM rfl T.R8 (aS aN bE aB (aS eB eC B_ S!))) (λ_ _ _ _ _=>bH (i:=0) (show([a7_,cU_,mF_]:List Str).Nodup by decide+kernel) rfl a_) aG! gj! (λ_ _ _ _ _=>(aM aH aL aH! (aS eB eC (aS mH mI S! (aS aN bE aB (aS jY jZ aB B_))) aB) q_))))))))
def iN(T:i!):Ok P w K mg base 1 "_law_pick" gd_ (Cz):=
 dZ (ae:=[]) (k:=0) T.O9 b4x (λhr=>tk_)
def b7a(T:i!):Ok P w K mg base 3 "_law_deed" mH_ (Jx):=
 dZ (ae:=[]) (k:=2) T.P0 eV (λhr=>(bB (fE (i:=4) eV.nd rfl a_ (aP gA! d_ rfl (aD B_ gk_) ag_)) (bB (fE (i:=5) eV.nd rfl a_ (aP (xK T) d_ rfl c0_ as_)) (bB (fE (i:=6) eV.nd rfl a_ (aP eH! d_ rfl (aD (aS aN bE (dH aA! cZ! dW) (dH aA! dW cZ!)) go!) ag_)) (bB (fE (i:=7) eV.nd rfl a_ (aP eH! d_ rfl (aD (aS aN bE aA! go_) go!) ag_)) (bB (gL (eJ (kI a1b rfl T.R3 rfl T.S0 cI a8t cm_)) (bC (fE (i:=7) eV.nd rfl a_ dD)) dO) (bB (fE (i:=8) eV.nd rfl a_ (gV (n:=19) rfl)) (bB (fE (i:=9) eV.nd rfl a_ (aM aH aL c1! ty! q_)) (bB (gL gp! (bC (bP (cP (aD bY! ty_)))) dO) (bB (gL gp! (bC (bP (cP (aD bY! (aD aX! ty_))))) dO) (bB (gL gp! (bC (bP (cP (aD bY! (aD aX! aK))))) dO) (bB (fE (i:=10) eV.nd rfl a_ (aP eH! d_ rfl (aD (aP (b2w T) d_ rfl c0_ as_) go!) ag_)) (bB (gL gp! (bC (bP (cP (aD bY! (aD aX! (aD eH_ (aD (aP (b6w T) d_ rfl (aD tv_ eG_) ag_) aK))))))) dO) (bB (gL (vK (vJ gp! (pO (bM oJ oQ eH_ dD u!)))) (bC (bP (cP (aD bY! (aD aX! (aD eH_ (aD (aS aN bE aB (aS eB eC tC! (aS lF lN aB (aM aH aL eH_ aB q_)))) aK))))))) dO) (bB (gL (bM b2r d1e bY! go_ rfl) (bC (bP (cP (aD aR (aD aX! (aD tD_ (aD (aS lF lN tD_ aB) aK))))))) dO) (bB (fE (i:=11) eV.nd rfl a_ (aS aN bE (kJ (NL:=cZ_) (NF:=[]) (ix:=[]) rfl c! j_ (cE (sc:=Ae Px) rfl j_) Do.nil c! rfl (eO aH!) mY! aG! gj! tn_) (nO (aD (cP (aD aB (aD (aS aN bE aB ty!) aK))) aK)))) (bC (bP (cP (aD bY! (aD (aP eH! d_ rfl (aD (aA 11) go!) ag_) aK)))))))))))))))))))))
def a3j(T:i!):Ms P w K mg base 1 "_law_hang" cW! (Ip):=
 cL (ae:=[]) (k:=0) T.P5 jL (λhr=>(aF (kA (i:=4) (NL:=cZ_) (NF:=[a8!]) (ix:=[1]) jL.nd rfl a_ rfl c! j_ (cE (sc:=Ae Pt) rfl j_) m8! c! rfl (iA bE!) tH! aG! tH_ i6!) (aF (aW (i:=5) jL.nd rfl a_ T!) (aF (lQ JP (eW (vK (vJ (bM b0j b0k aA! tI! u!) (pO (bM c2! qK (aM aH aL (aM aH aL ba_ aA! q_) aB q_) aH! u!))))) (aG (aW (i:=5) jL.nd rfl a_ (aC (aS aN bE aA! aB))))) (aF (fB JP rfl (nJ (gM rfl T.R8 tI!)) (bH (i:=6) jL.nd rfl a_) (dN 6) (aG (cM (eW (vK (vJ (bM oJ oQ aH_ dD u!) (pO (bM aF_ cB (aM aH aL ba_ aX! q_) (cP (aD aH_ c0_)) u!))))) (aG (aW (i:=5) jL.nd rfl a_ (aC (aS aN bE aX! aB)))) bU))) (aG (dB u_ n_ aI! (aC (aS aN bE (aS aN bE (dH ba_ dW (dU aA!)) (nO (aD (cP (aD S! c0_)) aK))) (dH ba_ (dU aA!) dW))))))))))
def b6y(T:i!):Ms P w K mg base 1 "_law_lies" mJ! (Lx):=
 cL (ae:=[]) (k:=0) T.P6 tP (λhr=>(aF (lQ JP (eW tO_) (aF (kA (i:=3) (NL:=cZ_) (NF:=[a8!]) (ix:=[1]) tP.nd rfl a_ rfl c! j_ (cE (sc:=Ae Ps) rfl j_) m8! c! rfl (iA bE!) tH! aG! (λ_ _ _ _ _=>xQ (eW tP_)) tQ_) (aF (cM (eW (fZ (a4z aH_))) eL_ bU) (aG (aW (i:=1) tP.nd rfl bd_ gu!))))) eL_))
def a3i(T:i!):Ms P w K mg base 2 "_law_move" cW! (Io):=
 cL (ae:=[]) (k:=1) T.P7 b4y (λhr=>(aG (cM (wF (lP (dQ bE_ eU v! bE! rfl) (iT (wF (c5i (dQ bE_ eU H_ bE! rfl) (b7j (dQ bE_ eU H_ (aC go_) rfl))))))) (aG (cM (qN (fR (aU (b6y T) d_ rfl (aE n_ (aE H_ b0!))))) (aG (cK (aU (a3j T) d_ rfl tV_))) bU)) bU)))
def c7j(T:i!):Ms P w K mg base 3 "_law_do" mL! (Vf):=
 cL (ae:=[]) (k:=2) T.P8 iG (λhr=>(aF (aW (i:=2) iG.nd rfl bd_ dM!) (aF (aW (i:=3) iG.nd rfl bd_ (aC (cP (aD eN_ (aD eN_ aK))))) (aG (cM b0_ (aF (aW (i:=4) iG.nd rfl a_ (c5m (kB bE_ eU br! bE! rfl) (qO (aC (fF aF_ cB aW_ aR u!))))) (aF (dB u_ bE! aO_ mV!) (aF (dB u_ bE! aO_ (a0g (aE T! (aE T! (aE T! ne!))))) (aG (cK (aU (a3j T) d_ rfl (aE n_ (aE aO_ (aE (aC (d2b (eJ ba_) aW_ aR)) jd!))))))))) (aG (cM b0_ (aG (cK (aU (a3i T) d_ rfl (aE n_ gw_)))) (aG (cM b0_ (aG (cK (aU (a3i T) d_ rfl (aE n_ t2!)))) (aG (cM nf! (aG (dB u_ t4! br! br!)) (aG (cM nf! (aF t3! (aF (aW (i:=6) iG.nd rfl a_ T!) (aF (fB JP rfl (nJ (gM rfl T.R8 (bY cO eF rfl T.R4 dY (aD aA! aK)))) (bH (i:=7) iG.nd rfl a_) (dN 7) (aG (cM (eW (bM aF_ cB (aM aH aL (aM aH aL aA! cm_ q_) aB q_) aW_ u!)) (aG (aW (i:=6) iG.nd rfl a_ (aC (aS aN bE cm_ aB)))) bU))) (aF (kA (i:=8) (NL:=[a7_]) (NF:=[cV!,mJ_]) (ix:=[2,3]) iG.nd rfl a_ rfl c! j_ nh_ (Do.cons (j:=2) (Do.cons (j:=3) Do.nil)) c! rfl (nJ (gM rfl T.R8 (bY cO eF rfl T.R4 dY (aD aW_ aK)))) (λ_ _ _ _ _=>bH (i:=0) (show([a7_,cV!,mJ_]:List Str).Nodup by decide+kernel) rfl a_) aG! gx_ (λ_ _ _ _ _=>(aC (cP (aD (aS aN bE aH! (cP bV_)) (aD (aM aH aL eN_ B_ q_) (aD fU aK))))))) (aG (dB u_ bE! br! (aC (aS aN bE (aS aN bE (dH aA! dW (dU aX!)) c1!) (dH aA! (dU aX!) dW))))))))) (aG (cM nf! (aF (aW (i:=9) iG.nd rfl bd_ (sL (NL:=[a7_]) (NF:=[cV!]) (ix:=[2]) rfl c! j_ nh_ i0_ c! rfl (nJ (gM rfl T.R8 aW_)) (λ_ _ _ _ _=>bH (i:=0) (show([a7_,cV!]:List Str).Nodup by decide+kernel) rfl a_) aG! gx_ (λ_ _ _ _ _=>(aC (aS aN bE (dH eN_ dW cZ!) (cP (aD (aS aN bE (aM aH aL eN_ aB q_) B_) aK))))))) (aF t3! (aG (dB u_ bE! br! (sL (NL:=["_law_row"]) (NF:=[mK_]) (ix:=[9]) rfl c! j_ nh_ (Do.cons (j:=9) Do.nil) c! rfl (nJ (eO aA!)) (λ_ _ _ _ _=>bH (i:=0) (show(["_law_row",mK_]:List Str).Nodup by decide+kernel) rfl a_) aG! gx_ (λ_ _ _ _ _=>(a0f (aE dL_ (aE dL_ (aE (uQ dL_ (qO (kB (qE u_) eU dL_ v! rfl))) aO)))))))))) bU)))))))))))))))
def zU(T:i!):Ok P w K mg base 6 "are_parts" f8_ (He t):=
 dZ (ae:=[]) (k:=5) T.E5 zH (λhr=>(bB (gL (bM xH xJ gg! ug_ u!) eD_ dO) (bC (bP (bY (vR rfl) a8q rfl T.Q6 a8u (aD (kJ (NL:=uh_) (NF:=[]) (ix:=[]) rfl c! j_ (cE (sc:=Ae Jt) rfl j_) Do.nil c! rfl (c9a rfl T.S2 c9r S! B_) (λ_ _ _ _ _=>b6d rfl (oG (bH (i:=0) ui! rfl a_) (oG (bH (i:=1) ui! rfl a_) a9x))) (c3p 0 1) gj! (λ_ _ _ _ _=>(b9y (j:=0) (n:=1) (c3r T) d_ gk_ as_))) aK))))))
def a7g(T:i!):Ok P w K mg base 7 "is_deed" p! (Hr t):=
 dZ (ae:=[]) (k:=6) T.E6 a6l (λhr=>(bB (gL (vK (yF s8_ (qY (bM aF_ cB gg! aB u!)))) eD_ dO) (bB (gL (vK (yF (fZ (eJ (kI a1b rfl T.R3 rfl T.S0 cI a8t ba!))) (qY (b3w uk! rfl ba!)))) eD_ dO) (bB (gL (fZ (eJ (aP (zU T) d_ rfl (aD (dH B_ cZ! dW) (aD (c4h uk! rfl ba! q_) aK)) ag_))) eD_ dO) (bC (bP (yJ (fF xH xJ ba! aR u!) (gU (fF jB jC (aS aN bE mY_ ba!) mT_ u!)))))))))
def sA(T:i!):Ok P w K mg base 8 "is_operation" p! (Bu t):=
 dZ (ae:=[]) (k:=7) T.E7 rY (λhr=>(bB mS_ (bC (bP (kK tb_ (kK tb! (gU (aP (a7g T) d_ rfl mT! as_))))))))
def oK(T:i!):Ms P w K mg base 2 "was_taken" as! (Ft t):=
 cL (ae:=[]) (k:=1) T.L4 zD (λhr=>(aG (bR (kB jB (Ic.m jC) dM! un_ u!))))
def qG(T:i!):Ms P w K mg base 3 "not_yet_taken" bA_ (Ej t):=
 cL (ae:=[]) (k:=2) T.L7 dF (λhr=>(aF (aW (i:=2) dF.nd rfl a_ eZ) (aF (fB JP rfl (iA (xS aN mJ gz! v!)) (bH (i:=3) dF.nd rfl a_) eP! (aF (aW (i:=4) dF.nd rfl a_ nk_) (aF (cM (fR (aU (oK T) d_ rfl (aE n_ eM!))) (aG (aW (i:=5) dF.nd rfl a_ (cH N_ bI (cH N_ bI dH_ (aC nl!) q_) (aC (aS lF lN nl! aB)) q_))) (aG (cM (dQ aF_ jh! (aC nl!) nl_ u!) jh_ (aG (aW (i:=5) dF.nd rfl a_ (xR u_ H_ bb_ aO_ cl_)))))) (aG (cM (eW (bM c2! qK aA! aH_ u!)) jh_ bU))))) gA_)))
def oM(T:i!):Ms P w K mg base 2 "last_time" gc_ (Es t):=
 cL (ae:=[]) (k:=1) T.L6 zF (λhr=>(aF (cM (dQ aF_ jh! (cJ (gZ T) d_ n_ b0!) T! u!) (aG (bR T!)) bU) (aG (bR (cH N_ bI (cH N_ bI (cH N_ bI dH_ v! q_) (aC (c9g aB)) q_) T! q_)))))
def uD(T:i!):Ms P w K mg base 3 "check_times" mC_ (Iw t):=
 cL (ae:=[]) (k:=2) T.L8 fK (λhr=>(aF (aW (i:=2) fK.nd rfl a_ eZ) (aG (fB JP rfl (iA (uP (wO rfl) c0e rfl T.R9 yQ b0!)) (bH (i:=3) fK.nd rfl a_) eP! (aF (aW (i:=4) fK.nd rfl a_ (cH N_ bI (cH N_ bI v! aO_ q_) T! q_)) (aF (cM (dQ jB (Ic.m jC) bb_ (oW u_ H_ gu! (aU (oM T) d_ rfl (aE n_ (aE gu! aO))) cl_) u!) jh_ bU) (aG (dB u_ H_ gu! bb_))))))))
def qH(T:i!):Ms P w K mg base 9 "check_message" bA_ (Fm t):=
 cL (ae:=[]) (k:=8) T.L9 pX (λhr=>(aF (cM (eW (fZ (eJ (bY (vR rfl) a8q rfl T.Q6 a8u (aD (kJ (NL:=p!) (NF:=[]) (ix:=[]) rfl c! j_ (cE (sc:=Ae Gp) rfl j_) Do.nil c! rfl (eO S!) (λ_ _ _ _ _=>bH (i:=0) (show(p!:List Str).Nodup by decide+kernel) rfl a_) aG! gj! (λ_ _ _ _ _=>(aP (sA T) d_ rfl bV_ as_))) aK))))) jh_ bU) (aG (cK (aU (uD T) d_ rfl (aE n_ (aE (aU (qG T) d_ rfl eR!) aO)))))))
def nI(T:i!):Ms P w K mg base 2 "is_next" as! (Gr t):=
 cL (ae:=[]) (k:=1) T.L5 a6i (λhr=>(aG (bR (kB aF_ jh! dM! (xS aN mJ un_ T!) u!))))
def qI(T:i!):Ms P w K mg base 1 "accept" as! (Jm t):=
 cL (ae:=[]) (k:=0) T.M9 b2c (λhr=>(aF (cK (b0o (xR u_ dH_ dM! (a0g aO) cl_) v!)) tk!))
def oO(T:i!):Ms P w K mg base 3 "accept_waiting" ar_ (Fb t):=
 cL (ae:=[]) (k:=2) T.N0 dL (λhr=>(aF (aW (i:=1) dL.nd rfl a_ T!) (aF uv_ (aF (lQ JP (eW (bM b6s b6v (bY cO eF rfl T.R4 dY c0_) aB u!)) (aF lR (aF (cK (aU (qI T) d_ rfl (aE n_ jd!))) (aF (b7m (i:=1) dL.nd rfl a_ T!) (aG uv_))))) eR_))))
def a7c(T:i!):Ms P w K mg base 4 "receive" as! (Jj t):=
 cL (ae:=[]) (k:=3) T.N3 tM (λhr=>(aF (cM (fR (aU (nI T) d_ rfl eR!)) (aF (cK (aU (qI T) d_ rfl eR!)) (aG (bR (xS aN mJ T! (aU (oO T) d_ rfl b1!))))) bU) (aF (aW (i:=2) tM.nd rfl a_ (c5m (aU (oK T) d_ rfl eR!) (qO (kB bE_ eU v! gz! rfl)))) (aF (cM (wF (lP (eW (fZ (eJ aH!))) (iT (dQ b0j (Ic.m b0k) (uP cO c0f rfl T.R4 dY (aE gz! aO)) (aC (gP T.S7 rfl)) u!)))) (aG (cK (b0o gz! v!))) bU) (aG (bR T!))))))
def c2k(T:i!):Ms P w K mg base 10 "take" bA_ (Uh t):=
 cL (ae:=[]) (k:=9) T.N4 sE (λhr=>(aF (cK (aU (qH T) d_ rfl eR!)) (aF (aW (i:=2) sE.nd rfl a_ T!) (aF (fB JP rfl (nJ (eO S!)) (bH (i:=3) sE.nd rfl a_) eP! (aG (b7m (i:=2) sE.nd rfl a_ (aU (a7c T) d_ rfl (aE n_ eM!))))) gA_))))
def b2v(T:i!):Ok P w K mg base 4 "_law_world" mI_ (Jn):=
 dZ (ae:=[]) (k:=3) T.P1 fG (λhr=>(bB (qZ (i:=3) fG.nd rfl a_ aK) (bB (qZ (i:=4) fG.nd rfl a_ uG!) (bB (qZ (i:=5) fG.nd rfl a_ uG!) (bB (a8i JP rfl (gM rfl T.R8 aH!) fG.nd rfl a_ (bB (fE (i:=7) fG.nd rfl a_ (aP gA! d_ rfl (aD B_ (aD uG_ aK)) ag_)) (bB (fE (i:=8) fG.nd rfl a_ (aS eB eC cm_ aB)) (bB (b9r (i:=4) c! c1! (aS aN bE uI! aB)) (bB (b9r (i:=5) c! c1! (aS aN bE (aS aN bE uI_ aB) (aS eB eC (aS mH mI cm_ aB) aB))) (bB (fE (i:=9) fG.nd rfl a_ (b1h (aP (b7a T) d_ rfl (aD B_ (aD (aS aN bE uG_ aB) (aD aH_ nu!))) (aJ (aJ ag_))))) (bC (yI (i:=3) c! (cP (aD (aM aH aL to! c1! q_) (aD uI! (aD uI_ (aD bY! aK))))))))))))) (a5a (bC (bP aH_))))))))
def b6z(T:i!):Ms P w K mg base 11 "_law_hand" mM! (Pg t):=
 cL (ae:=[]) (k:=10) T.Q0 tQ (λhr=>(aF (kA (i:=4) (NL:=cZ_) (NF:=[dF!]) (ix:=[2]) tQ.nd rfl a_ rfl c! j_ (cE (sc:=Ae Pv) rfl j_) i0_ c! rfl (nJ (eO (aP (b2v T) d_ rfl (aD B_ (aD S! eG_)) (aJ ag_)))) uP! aG! tH_ i6!) (aF (aW (i:=5) tQ.nd rfl a_ (c2z (a7i T) d_ rfl eT_)) (aF (cK (aU (c2k T) d_ rfl uP_)) (aG (bR (a0f uP_)))))))
def b6x(T:i!):Ms P w K mg base 1 "_law_next" mN! (Pf):=
 cL (ae:=[]) (k:=0) T.Q1 a2n (λhr=>(aF (kA (i:=3) (NL:=cZ_) (NF:=[]) (ix:=[]) a2n.nd rfl a_ rfl c! j_ uR_ Do.nil c! rfl (nJ eJ!) mY! aG! gx_ tQ_) (aG (bR (aC (cP (aD S! (aD (aS aN bE aB (bY cO eF rfl T.R4 dY (aD (kJ (NL:=cZ_) (NF:=[dF!]) (ix:=[1]) rfl c! j_ uR_ m8! c! rfl eJ! uP! aG! (λ_ _ _ _ _=>c5e tP_) (λ_ _ _ _ _=>B_)) aK))) (aD (aS aN bE aB (bY (b4a rfl) c4o rfl T.R6 c0n (aD (aS aN bE aH_ tm_) aK))) c0_)))))))))
def kU(T:i!):Ew P w K mg base 1 t.B6 "numbers_of" ga_ (Dk t):=
 cW (ae:=[]) (k:=0) T.T8 T.J8 kQ (λhr=>(aG (bR (b3h a1u c4n rfl T.R5 c4p (aE uT_ aO)))))
def cY(T:i!):Ew P w K mg base 1 t.B6 "has_item" ar! (Bh t):=
 cW (ae:=[]) (k:=0) T.T8 T.G8 mQ (λhr=>(aG (bR (kB bE_ eU v! jm! rfl))))
def qF(T:i!):Ok P w K mg base 1 "time_and_hand" bm_ (Ct):=
 dZ (ae:=[]) (k:=0) T.E8 pW (λhr=>(bC (bP tn!)))
def lJ(T:i!):Ok P w K mg base 4 "in_order" aV! (Dg):=
 dZ (ae:=[]) (k:=3) T.E9 a2l (λhr=>(bC (bP (b9x (qF T) (Ak.in1 (Ak.in1 d_)) rfl rfl T.R9 B_))))
def mK(T:i!):Vy P w K mg base 1 "Row" t.B7 [K_] (Gj t):=
 zW (ae:=[]) (k:=0) T.F6 b2d (λhr=>(aF (fS T.T9 T.U5 n_ uW!) (aG (fS T.T9 T.U6 n_ uW!))))
def wD(T:i!):Vy P w K mg base 3 "Outline" t.B6 [K_] (Hn t):=
 zW (ae:=[]) (k:=2) T.G6 vY (λhr=>(aF (fS T.T8 T.U7 n_ (oV u_ (hV aI! bW! (hV aI! bW! uJ)))) (aF (fS T.T8 T.U8 n_ (oV u_ (hV aI! jn_ (hV aI! jn_ uJ)))) (aF (fS T.T8 T.U9 n_ eZ) (aF (fS T.T8 T.V0 n_ eZ) (aF (fS T.T8 T.V1 n_ eZ) (aG (fS T.T8 T.V2 n_ eZ))))))))
def iK(T:i!):Ok P w K mg base 1 "is_undo_or_redo" bm_ (At):=
 dZ (ae:=[]) (k:=0) T.J9 nA (λhr=>(bC (bP (yJ uZ! (gU uZ!)))))
def wB(T:i!):Ms P w K mg base 5 "last_words" aV! (Gi):=
 cL (ae:=[]) (k:=4) T.K0 iW (λhr=>(aF (aW (i:=1) iW.nd rfl a_ eZ) (aF (fB JP rfl uZ_ (bH (i:=2) iW.nd rfl a_) (dN 2) (aG (cM (eW (eJ (aP (iK T) d_ rfl c0_ as_))) (aG (dB u_ v! jo_ jo_)) bU))) eR_)))
def b2t(T:i!):Ms P w K mg base 6 "undone" aV! (Ll):=
 cL (ae:=[]) (k:=5) T.K3 jJ (λhr=>(aF (aW (i:=1) jJ.nd rfl a_ (aU (wB T) d_ rfl b1!)) (aF (aW (i:=2) jJ.nd rfl a_ eZ) (aF (fB JP rfl (nJ eJ!) (bH (i:=3) jJ.nd rfl a_) eP! (aF (aW (i:=4) jJ.nd rfl a_ nk_) (aG (cM (wF (lP (eW (fZ (eJ (aP (iK T) d_ rfl eG_ as_)))) (iT (dQ aF_ jh! (b7t u_ v! bb_ cl_) aI! u!)))) (aG (dB u_ H_ bb_ ja!)) bU)))) gA_))))
def oP(T:i!):Ew P w K mg base 1 t.B7 "holds" ar! (Hf t):=
 cW (ae:=[]) (k:=0) T.T9 T.F7 zI (λhr=>(aG (bR (uQ u5! (qO (kB bE_ eU v! eU_ rfl))))))
def fQ(T:i!):Ew P w K mg base 2 t.B7 "put_behind" mz_ (Cm t):=
 cW (ae:=[]) (k:=1) T.T9 T.F8 fL (λhr=>(aF (aW (i:=3) fL.nd rfl a_ (b7r (fR (cJ (oP T) d_ n_ eT_)) H_ bW!)) (aF (aW (i:=4) fL.nd rfl a_ (cH N_ bI eU_ aO_ q_)) (aF (dB u_ eU_ aO_ v!) (aF (dB u_ jp_ v! aO_) (aF (dB u_ eU_ v! bb_) (aG (dB u_ jp_ bb_ v!))))))))
def lL(T:i!):Ew P w K mg base 1 t.B6 "has" ar! (Ek t):=
 cW (ae:=[]) (k:=0) T.T8 T.G7 tO (λhr=>(aG (bR (kB bE_ eU v! gH_ rfl))))
def uE(T:i!):Ew P w K mg base 3 t.B6 "put" cT_ (Iy t):=
 cW (ae:=[]) (k:=2) T.T8 T.H9 kZ (λhr=>(aF (aW (i:=4) kZ.nd rfl a_ (b7r (fR u8!) H_ aI!)) (aF (dB u_ nB! v! bb_) (aF (cK (cJ (fQ T) d_ (cH N_ bI gH_ bb_ q_) nB_)) (aF (dB u_ gH_ v! jn_) (aF (dB u_ jm! v! jn_) (aG (dB u_ uT! v! (c2x ne! (aC (gP T.S5 rfl)))))))))))
def sB(T:i!):Ew P w K mg base 1 t.B7 "take_out" ar! (Hz t):=
 cW (ae:=[]) (k:=0) T.T9 T.F9 gQ (λhr=>(aF (aW (i:=2) gQ.nd rfl a_ (b7q u_ jp_ v! cl_)) (aF (aW (i:=3) gQ.nd rfl a_ (b7q u_ eU_ v! cl_)) (aF (dB u_ eU_ H_ aO_) (aG (dB u_ jp_ aO_ H_))))))
def lK(T:i!):Ew P w K mg base 1 t.B6 "is_within" f9! (Fg t):=
 cW (ae:=[]) (k:=0) T.T8 T.G9 gE (λhr=>(aF (lQ JP (eW (vK (vJ (bM oJ oQ S! dD u!) (pO tO_)))) (aG (aW (i:=1) gE.nd rfl a_ vf_))) (aG (bR u5!))))
def mS(T:i!):Ew P w K mg base 2 t.B6 "can_move" f9_ (Ee t):=
 cW (ae:=[]) (k:=1) T.T8 T.J0 mR (λhr=>(aG (bR (uQ nC! (uQ u8! (qO (c7t (cJ (lK T) d_ n_ (aE H_ b0!)))))))))
def kO(T:i!):Ew P w K mg base 3 t.B6 "move" cT_ (Gk t):=
 cW (ae:=[]) (k:=2) T.T8 T.J4 rZ (λhr=>(aF (cM (qN (fR (cJ (mS T) d_ n_ (aE v! eT_)))) (aG a0d) bU) (aF (cK (cJ (sB T) d_ (cH N_ bI gH_ vf_ q_) b0!)) (aF (cK (cJ (fQ T) d_ (cH N_ bI gH_ H_ q_) nB_)) (aG (dB u_ nB! v! H_))))))
def qJ(T:i!):Ew P w K mg base 3 t.B6 "write" mA! (Hi t):=
 cW (ae:=[]) (k:=2) T.T8 T.J5 dG (λhr=>(aF (cM (qN (fR (cJ (cY T) d_ n_ eT_))) (aG a0d) bU) (aF (aW (i:=5) dG.nd rfl a_ aO_) (aG (fB JP rfl (nJ (b9w rfl T.Q9 ba_)) (b6d rfl (oG (bH (i:=6) dG.nd rfl a_) (oG (bH (i:=7) dG.nd rfl a_) a9x))) (b9c 6 7) (aF (aW (i:=8) dG.nd rfl a_ (aC (aS aN bE S! (cP (aD aX! aK))))) (aF (cK (cJ (fQ T) d_ (cH N_ bI jm! H_ q_) (aE jr_ (aE co! aO)))) (aF (dB u_ (bG T.T8 T.V1 n_) jr_ (aC cm_)) (aG (aW (i:=5) dG.nd rfl a_ jr_))))))))))
def uF(T:i!):Ew P w K mg base 2 t.B6 "cut" mB! (Iz t):=
 cW (ae:=[]) (k:=1) T.T8 T.J6 iF (λhr=>(aF (cM (qN (fR nC!)) (aG a0d) bU) (aG (fB JP rfl (nJ (b3y rfl T.R8 aW_ (aS aN bE aW_ aH_))) (bH (i:=4) iF.nd rfl a_) (dN 4) (aF (aW (i:=5) iF.nd rfl a_ (aC (aS aN bE (dH aH! dW cZ!) (cP (aD ba_ aK))))) (aG (cM (fR (cJ (oP T) d_ (cH N_ bI jm! v! q_) (aE co! aO))) (aG (dB u_ (bG T.T8 T.V2 n_) co! ja!)) bU)))))))
def kS(T:i!):Ew P w K mg base 2 t.B6 "set_number" ga! (Eu t):=
 cW (ae:=[]) (k:=1) T.T8 T.J7 kP (λhr=>(aG (cM (fR nC!) (aG (dB u_ uT_ H_ aO_)) bU)))
def c2l(T:i!):Ms P w K mg base 4 "play" gb! (Mv t):=
 cL (ae:=[]) (k:=3) T.K4 c1k (λhr=>(aG (cM b0_ (aG (cK (cJ (uE T) d_ n_ (aE v! (aE br! jd!))))) (aG (cM b0_ (aG (cK (cJ (kO T) d_ n_ gw_))) (aG (cM b0_ (aG (cK (cJ (kO T) d_ n_ t2!))) (aG (cM b0_ (aG (cK (cJ (qJ T) d_ n_ (aE v! gw_)))) (aG (cM b0_ (aG (cK (cJ (uF T) d_ n_ gw_))) (aG (cM b0_ (aG (cK (cJ (kS T) d_ n_ gw_))) bU)))))))))))))
def b2u(T:i!):Ms P w K mg base 7 "played" aV! (Jk t):=
 cL (ae:=[]) (k:=6) T.K5 jK (λhr=>(aF (aW (i:=1) jK.nd rfl a_ (lT (wD T) d_ rfl)) (aF (aW (i:=2) jK.nd rfl a_ (aU (b2t T) d_ rfl b1!)) (aF (fB JP rfl uZ_ (bH (i:=3) jK.nd rfl a_) eP! (aF (aW (i:=4) jK.nd rfl a_ nk_) (aG (cM (dQ (qE u_) eU bb_ H_ rfl) (aG (cK (aU (c2l T) d_ rfl (aE v! (aE bb_ (aE gu! aO)))))) bU)))) eR_))))
def oN(T:i!):Ms P w K mg base 5 "all_taken" ar_ (Et t):=
 cL (ae:=[]) (k:=4) T.K8 jU (λhr=>(aF (c7r (qZ (i:=1) jU.nd rfl a_ aK)) (aF (fB JP rfl (b7p dH_) (bH (i:=2) jU.nd rfl a_) (dN 2) (aG (b3e (i:=1) c! (cH N_ bI dH_ H_ q_)))) (a3r (aG (bR (aC (aP (lJ T) d_ rfl gk_ as_))))))))
def wA(T:i!):Ms P w K mg base 8 "outline_of" ar_ (Ez t):=
 cL (ae:=[]) (k:=7) T.K9 vW (λhr=>(aF (cM (dQ a6z (Ic.m a7j) vD_ bW! u!) (aG (fS T.T7 T.V6 n_ (aU (b2u T) d_ rfl (aE vE_ aO)))) bU) (aG (bR vD_))))
def kR(T:i!):AT P w K mg base 9 "outline_with_item" mE_ (Dj t):=
 zV (ae:=[]) (k:=8) (q:=Ha t) T.N6 gD (λhr hX=>(sI (d2v (aW (i:=2) gD.nd rfl a_ (aU (wA T) d_ rfl b1!))) (sI (c5h (qN (fR (cJ (cY T) d_ H_ b0!))) (gY (a3p hX T.U2 hr.hd rfl T.U1 (b7s (c8p (d1v (i:=1) hr rfl a_ c! (c8p b9f)))))) (c2s bU)) (c2s gA_))))
def fI(T:i!):AT P w K mg base 10 "outline_with_number" bV! (Cg t):=
 zV (ae:=[]) (k:=9) (q:=Gg t) T.N7 jT (λhr hX=>(sI (c5h (eW (fZ (eJ (aP (rJ T) d_ rfl c0_ as_)))) (gY (a3p hX T.U2 hr.hd rfl T.U1 (b7s (c8p (d1v (i:=2) hr rfl a_ c! b9f))))) (c2s bU)) (gY (b7h (oR hX (kR T) d_ rfl eR!)))))
def a7b(T:i!):AT P w K mg base 11 "number" bV! (Oh t):=
 zV (ae:=[]) (k:=10) (q:=Ri t) T.N8 b2b (λhr hX=>(gY (b7h (d1i N_ bI (c2t (kU T) d_ vJ_ b0!) H_ q_))))
def uG(T:i!):Ms P w K mg base 12 "_law_number" mN_ (Jo t):=
 cL (ae:=[]) (k:=11) T.Q3 jV (λhr=>(aF (aW (i:=3) jV.nd rfl a_ bW!) (aF (b7l (ie:=4) (ix:=3) (L:=_) ⟨rfl,rfl,λ_=>hr.hd,jV.nd,rfl,rfl,U_,rfl,rfl,rfl,T.U0,T.U3⟩ vL! (d1t T.U4) (λpn f M0 G0 F0 E hX=>gY (b7g (i:=3) jV.nd rfl a_ (oR hX (a7b T) d_ rfl vK_)))) (aG (bR aO_)))))
def lM(T:i!):Ms P w K mg base 1 "_law_ordered" az! (Ef):=
 cL (ae:=[]) (k:=0) T.P3 gF (λhr=>(aF (c7r (qZ (i:=1) gF.nd rfl a_ aK)) (aF (fB JP rfl (nJ eJ!) (bH (i:=2) gF.nd rfl a_) (dN 2) (aF (aW (i:=3) gF.nd rfl a_ (aC (b1h ug_))) (aF (lQ JP (eW (vK (vJ (bM b6s b6v aH_ aB u!) (pO (bM (c7g (Ak.units0 hr)) c7n (cP (aD vN_ (aD vN_ aK))) (cP (aD aW_ (aD aW_ aK))) u!))))) (aG (aW (i:=3) gF.nd rfl a_ (aC vN!)))) (aG (c7r (b3x (i:=1) c! aH_ aH!)))))) (a3r eR_))))
def a7h(T:i!):Ms P w K mg base 2 "_law_undone" az! (Lu):=
 cL (ae:=[]) (k:=1) T.P4 nB (λhr=>(aF (aW (i:=1) nB.nd rfl a_ eZ) (aF (fB JP rfl vP! (bH (i:=2) nB.nd rfl a_) (dN 2) (aG (cM (dQ bE_ eU jo_ (aC go_) rfl) (aG (dB u_ v! jo_ (aC (fF aF_ cB iZ! aR u!)))) bU))) eR_)))
def a3h(T:i!):Ms P w K mg base 4 "_law_play" az! (Lw):=
 cL (ae:=[]) (k:=3) T.P9 nX (λhr=>(aF (aW (i:=1) nX.nd rfl a_ (oV u_ (hV aI! mV! (hV aI! eZ (hV aI! eZ uJ))))) (aF (aW (i:=2) nX.nd rfl a_ (aU (a7h T) d_ rfl b1!)) (aF (fB JP rfl vP! (bH (i:=3) nX.nd rfl a_) eP! (aG (cM (wF (lP (dQ (qE u_) eU (aC (aM aH aL ja_ aB q_)) (aC go_) rfl) (iT (qN (fR (oW u_ H_ (aC (cP (aD ja_ (aD ja_ aK)))) ja! cl_)))))) (aG (cK (aU (c7j T) d_ rfl nB_))) bU))) eR_))))
def zS(T:i!):Ms P w K mg base 3 "next_time" ar_ (Im t):=
 cL (ae:=[]) (k:=2) T.N9 zE (λhr=>(aG (bR (xS aN mJ T! (c2y rfl T.R6 rfl (sL (NL:=[cT!]) (NF:=ar_) (ix:=[0]) rfl c! j_ (cE (sc:=Ae Js) rfl j_) uu! c! rfl (b7p dH_) (λ_ _ _ _ _=>bH (i:=0) (show([cT!,R!]:List Str).Nodup by decide+kernel) rfl a_) aG! gx_ (λ_ _ _ _ _=>(aU (oM T) d_ rfl (aE v! b1!)))))))))
def c2m(T:i!):Ms P w K mg base 4 "make" mF! (Ui t):=
 cL (ae:=[]) (k:=3) T.O0 a9k (λhr=>(aF (aW (i:=2) a9k.nd rfl a_ (a0f (aE nl_ (aE (xS aN mJ (cJ (gZ T) d_ n_ (aE nl_ aO)) T!) aO)))) (aF (cK (aU (qI T) d_ rfl (aE n_ (aE (xS aN mJ H_ (a0f (aE (aU (zS T) d_ rfl b1!) b0!))) aO)))) gA_)))
def b2s(T:i!):AT P w K mg base 11 "place" gd! (Tl t):=
 zV (ae:=[]) (k:=10) (q:=Sz t) T.O3 b4w (λhr hX=>(sI (c2u vJ_) (c2s (aG (bR (aU (c2m T) d_ rfl (aE n_ (aE (aC (cP (aD aR (aD S! (aD aH! eG_))))) aO))))))))
def c2o(T:i!):Ms P w K mg base 12 "_law_try" mM_ (Qm t):=
 cL (ae:=[]) (k:=11) T.Q2 sF (λhr=>(aF (aW (i:=4) sF.nd rfl a_ bW!) (aF (b7l (ie:=5) (ix:=4) (L:=_) ⟨rfl,rfl,λ_=>hr.hd,sF.nd,rfl,rfl,U_,rfl,rfl,rfl,T.U0,T.U3⟩ vL! (d1t T.U4) (λpn f M0 G0 F0 E hX=>gY (b7g (i:=4) sF.nd rfl a_ (oR hX (b2s T) d_ rfl tV_)))) (aG (bR bb_)))))
def c2n(T:i!):Ms P w K mg base 6 "give" mE! (Se t):=
 cL (ae:=[]) (k:=5) T.N5 a9l (λhr=>(aF (aW (i:=2) a9l.nd rfl bd_ (b3g u_ rfl T.Q8 rfl T.Q9 rfl v!)) (aG (bR (sL (NL:=bm_) (NF:=[mD_]) (ix:=[2]) rfl c! j_ (cE (sc:=Ae Rn) rfl j_) i0_ c! rfl (iA vE_) (λ_ _ _ _ _=>bH (i:=0) (show([bU!,mD_]:List Str).Nodup by decide+kernel) rfl a_) aG! (λ_ _ _ _ _=>xQ (dQ b6s (Ic.m b6v) dL_ (oW u_ v! dL_ T! cl_) u!)) i6!)))))
end
def Ys(K:zY!):Sp:=λvs H Q E=>∀(P:z7!) (w:yO!) (t:Ar),t.nd->Xi P w K 1 (Yy t) vs H Q E
section
variable{P:z7!}{w:yO!}{K:zY!}{mg:Str->Option Value}{h:Heap}
def c9y(gg:mg "law"=some eQ!)(dl:AH K mg "law" Ub [a7!])(T:Txt P w K mg jz!)(nd:Ar.nd jz!):
  ∃fd:FuncData,(∀(s:z6!) (u:xT!),BindsTo s fd ji_ [("_law_script",u)])/\∀base:Heap,K.In base->base.Ns mainGlobals mg->Fk P w K mg base Pd 13 fa fd [a7!] (Ys K):=by
 obtain⟨fd,J,h2⟩:=c3e (ae:=[]) (k:=12) (P:=P) (w:=w) (q:=Wp jz!) dl eQ gg (λbase ag ah A outer s H E hr=>(aF (aW (i:=1) eQ.nd rfl a_ (aU (b6z T) d_ rfl (aE n_ (aE T! (aE T! (aE (aC v3_) aO))))))
   (aF (aW (i:=2) eQ.nd rfl a_ dM!)
   (aF (aW (i:=3) eQ.nd rfl a_ dM!)
   (aF (fB JP rfl (nJ (gM rfl T.R8 v3_)) (bH (i:=4) eQ.nd rfl a_) (dN 4) (aF (aW (i:=5) eQ.nd rfl a_ (aC (aP eH! d_ rfl (aD (aP (xK T) d_ rfl eG_ as_) (aD v6! aK)) ag_)))
   (aF (aW (i:=6) eQ.nd rfl a_ (aC (aS lF lN (aS eB eC v6! aB) aB)))
   (aF (aW (i:=7) eQ.nd rfl a_ (aC (aS lF lN (aS eB eC (aP (a3k T) d_ rfl v5_ ag_) rZ!) aB)))
   (aF (aW (i:=8) eQ.nd rfl a_ v9_)
   (aF (aW (i:=9) eQ.nd rfl a_ (uQ (kB bE_ eU co! wa! rfl) (qO (aC (vN jB jC jB jC aB aX! aB)))))
   (aF (aW (i:=10) eQ.nd rfl a_ (b7r nS! (cH N_ bI (cH N_ bI wa! co! q_) jB! q_) aI!))
   (aF (cM (dQ c2! zR wc! (aC eH_) u!) eL_ bU)
   (aF (aW (i:=10) eQ.nd rfl a_ aI!)
   (aF (cM nS! (aF (aW (i:=12) eQ.nd rfl a_ (aU (b6x T) d_ rfl (aE aO_ (aE T! (aE (aC (cP (aD aR (aD aA! (aD aX! (aD cm_ aK)))))) aO)))))
   (aF (aW (i:=10) eQ.nd rfl a_ (aC (dH (aA 12) dW cZ!)))
   (aG (aW (i:=3) eQ.nd rfl a_ (aC (aS aN bE aH_ (nO (aD (aA 12) aK)))))))) bU)
   (aF (cM (wF (c5i (dQ c2! zR (aU (c2o T) d_ rfl (aE H_ (aE co! (aE jB! (aE (aC cm_) aO))))) (aC eH_) u!) (b7j (dQ c2! zR (aU (c2n T) d_ rfl (aE H_ (aE (c2w ne! T!) aO))) (aU (lM T) d_ rfl eM!) u!)))) eL_ bU)
   (aF (aW (i:=11) eQ.nd rfl a_ (cH N_ bI v9_ aI! q_))
   (aG (cM (wF (lP nS! (iT (dQ c2! zR wc! (cH N_ bI (cH N_ bI (aC (aA 11)) co! q_) jB! q_) u!)))) eL_ bU))))))))))))))
   eL_)))))
 exact⟨fd,J,λbase i g=>(h2 base i g).imp λvs H Q E z=>z P w _ nd⟩
def b3s{ad:xz!}{k3:Tok}{o0 o1 o2 o3 o4 o5 o6 o7:aG_}{n0 n1 n2 n3 n4 n5 n6 n7 ep:Nat}{s0 s1 s2 s3 s4 s5 s6 s7:bB_}(X:dZ!)(G:ff!)
  (ga:W.nsIn K mainGlobals "PARTS"=some (some j4!))(gl:K.lookup ad=some {cls:=.type "dict",data:=.dict #[⟨PyData.keyHash w.params "put",.str "put" k0,.ref r0⟩,⟨PyData.keyHash w.params "move",.str "move" k1,.ref r1⟩,⟨PyData.keyHash w.params "drop",.str "drop" k2,.ref r2⟩,⟨PyData.keyHash w.params "write",.str "write" k3,.ref r3⟩,⟨PyData.keyHash w.params "cut",.str "cut" k4,.ref r4⟩,⟨PyData.keyHash w.params "set",.str "set" k5,.ref r5⟩,⟨PyData.keyHash w.params "undo",.str "undo" k6,.ref r6⟩,⟨PyData.keyHash w.params "redo",.str "redo" k7,.ref r7⟩] ep})(gs:os!=false)
  (l0:K.lookup r0=some ⟨cC!,o0,.seq #[.ref B8,.ref B9] n0,s0⟩)
  (l1:K.lookup r1=some ⟨cC!,o1,.seq #[.ref B8,.ref B8,.ref B9] n1,s1⟩)
  (l2:K.lookup r2=some ⟨cC!,o2,.seq #[.ref B8] n2,s2⟩)
  (l3:K.lookup r3=some ⟨cC!,o3,.seq #[.ref B8,.ref C2,.ref C3] n3,s3⟩)
  (l4:K.lookup r4=some ⟨cC!,o4,.seq #[.ref B8,.ref C4,.ref C5] n4,s4⟩)
  (l5:K.lookup r5=some ⟨cC!,o5,.seq #[.ref B8,.ref C6,.ref C7] n5,s5⟩)
  (l6:K.lookup r6=some ⟨cC!,o6,.seq #[.ref C8] n6,s6⟩)
  (l7:K.lookup r7=some ⟨cC!,o7,.seq #[.ref C8] n7,s7⟩)
  :∀X:Cx,X.prog=P->X.w=w->X.K=K->X.mg=mg->Ts X "PARTS" (Hq jz!):=λgq e1 e2 e3 e4=>
 b9d (rows:=[("put",k0,r0),("move",k1,r1),("drop",k2,r2),("write",k3,r3),("cut",k4,r4),("set",k5,r5),("undo",k6,r6),("redo",k7,r7)]) (w:=w) e2 e3 e4 (dS X G ga) gs gl (show(["put","move","drop","write","cut","set","undo","redo"]:List Str).Nodup by decide+kernel) ⟨rfl,gG (fs:=[B8,B9]) l0 (by show 2<=1000;decide),rfl,gG (fs:=[B8,B8,B9]) l1 jF_,rfl,gG (fs:=[B8]) l2 nY_,rfl,gG (fs:=[B8,C2,C3]) l3 jF_,rfl,gG (fs:=[B8,C4,C5]) l4 jF_,rfl,gG (fs:=[B8,C6,C7]) l5 jF_,rfl,gG (fs:=[C8]) l6 nY_,rfl,gG (fs:=[C8]) l7 nY_,trivial⟩
end
end K22
open PySem PySem.W PyProof.Rows
set_option maxRecDepth 100000 in
set_option maxHeartbeats 0 in
theorem PySem.Challenge.cw_manyhands_k22_own_numbers_holds : PySem.Challenge.rw_manyhands_k22_own_numbers.Holds := by
 w_on;o_law;k_head;(case hw=>w_witness2)
 k_fill
 refine L2.b4l (l:=PySem.Challenge.rw_manyhands_k22_own_numbers) (n:=63) (k:=13) (x:="_law_script") (CX:=L2.Pd) (sp:=K22.Ys) rfl (by decide) rfl ⟨rfl,by decide,by decide,rfl⟩ (λw h Y=>W.kIn_of Y) ?F (λK H a ns hl _ hS P w t nd=>DL.c3d hS (K22.b8d nd)) (λ_ _ _ _ z=>z)
 case F=>
  intro w mg fa h KX G hmg;refine' K22.c9y hmg ?dl ⟨?D3,?D4,?D5,?D6,?D7,?D8,?D9,?E1,?E2,?E3,?E4,?E5,?E6,?E7,?E8,?E9,?F6,?F7,?F8,?F9,?G6,?G7,?G8,?G9,?H9,?J0,?J4,?J5,?J6,?J7,?J8,?J9,?K0,?K3,?K4,?K5,?K6,?K7,?K8,?K9,?L4,?L5,?L6,?L7,?L8,?L9,?M9,?N0,?N3,?N4,?N5,?N6,?N7,?N8,?N9,?O0,?O3,?O4,?O5,?O6,?O7,?O8,?O9,?P0,?P1,?P3,?P4,?P5,?P6,?P7,?P8,?P9,?Q0,?Q1,?Q2,?Q3,?Q4,?Q5,?Q6,?Q7,?Q8,?Q9,?R0,?R3,?R4,?R5,?R6,?R7,?R8,?R9,?S0,?S1,?S2,?S3,?S4,?S5,?S6,?S7,?S8,?S9,?T0,?T1,?T2,?T3,?T4,?T5,?T6,?T7,?T8,?T9,?U0,?U1,?U2,?U3,?U4,?U5,?U6,?U7,?U8,?U9,?V0,?V1,?V2,?V3,?V4,?V5,?V6,?gp⟩ ?nd
  (case F6=>show"!!")
  (case G6=>show"!!")
  (case K6=>(dsimp only;refine' DL.b7n (DL.dS KX G ?g) ?a ?i ?l ?c ?k ?mm ?kc ?b;(case g=>k_is);(case a=>k_is);(case i=>k_is);(case l=>k_is);(case c=>k_is);(case k=>k_is);(case mm=>k_is);(case kc=>k_is);(case b=>exact λ_ _ _ _ _ _=>DL.rE λ_ _=>rfl)))
  (case D3=>show"!#")
  (case D4=>show"!$")
  (case D5=>show"!#")
  (case D6=>show"!#")
  (case D7=>show"!#")
  (case D8=>show"!#")
  (case D9=>show"!#")
  (case E1=>show"!#")
  (case E2=>show"!#")
  (case E3=>show"!#")
  (case E4=>show"!#")
  (case E5=>show"!$")
  (case E6=>show"!#")
  (case E7=>show"!#")
  (case E8=>show"!#")
  (case E9=>show"!#")
  (case F7=>show"!%")
  (case F8=>show"!&")
  (case F9=>show"!%")
  (case G7=>show"!%")
  (case G8=>show"!%")
  (case G9=>show"!&")
  (case H9=>show"!'")
  (case J0=>show"!&")
  (case J4=>show"!'")
  (case J5=>(dsimp only;refine' DL.eG ?a ?i ?l ?c ?k ?b;(case a=>k_is);(case i=>k_is);(case l=>k_is);(case c=>k_is);(case k=>k_is);(case b=>exact λ_ _ _ _ _ _=>DL.us5 λ_ _ _ _ _=>rfl)))
  (case J6=>show"!'")
  (case J7=>show"!'")
  (case J8=>show"!%")
  (case J9=>show"!#")
  (case K0=>show"!#")
  (case K3=>show"!#")
  (case K4=>show"!(")
  (case K5=>show"!#")
  (case K7=>show"!%")
  (case K8=>show"!#")
  (case K9=>show"!#")
  (case L4=>show"!$")
  (case L5=>show"!$")
  (case L6=>show"!$")
  (case L7=>show"!$")
  (case L8=>show"!$")
  (case L9=>show"!$")
  (case M9=>show"!$")
  (case N0=>show"!#")
  (case N3=>show"!$")
  (case N4=>show"!$")
  (case N5=>show"!$")
  (case N6=>show"!$")
  (case N7=>show"!(")
  (case N8=>show"!(")
  (case N9=>show"!#")
  (case O0=>show"!$")
  (case O3=>show"!)")
  (case O4=>show"!$")
  (case O5=>show"!$")
  (case O6=>show"!#")
  (case O7=>show"!#")
  (case O8=>show"!$")
  (case O9=>show"!$")
  (case P0=>show"!)")
  (case P1=>show"!(")
  (case P3=>show"!#")
  (case P4=>show"!#")
  (case P5=>show"!)")
  (case P6=>show"!(")
  (case P7=>show"!)")
  (case P8=>show"!$")
  (case P9=>show"!#")
  (case Q0=>show"!)")
  (case Q1=>show"!(")
  (case Q2=>show"!)")
  (case Q3=>show"!(")
  (case Q4=>show"!#")
  (case dl=>(refine' DL.c4c KX G ?a ?l ?c ?k ?b;(case a=>k_is);(case l=>k_is);(case c=>k_is);(case k=>k_is);(case b=>exact λ_ _ _ _ _ _=>DL.mY λ_=>rfl)))
  (case Q5=>show"!*")
  (case Q6=>show"!*")
  (case Q7=>show"!*")
  (case Q8=>show"!*")
  (case Q9=>show"!*")
  (case R0=>show"!*")
  (case R3=>show"!*")
  (case R4=>show"!*")
  (case R5=>show"!*")
  (case R6=>show"!*")
  (case R7=>show"!*")
  (case R8=>show"!*")
  (case R9=>show"!*")
  (case S0=>show"!*")
  (case S1=>show"!*")
  (case S2=>show"!*")
  (case S3=>show"!+")
  (case S4=>show"!+")
  (case S5=>show"!+")
  (case S6=>show"!+")
  (case S7=>show"!+")
  (case S8=>show"!,")
  (case S9=>show"!,")
  (case T0=>show"!,")
  (case T1=>show"!,")
  (case T2=>show"!,")
  (case T3=>show"!,")
  (case T4=>show"!,")
  (case T5=>show"!,")
  (case T6=>show"!,")
  (case T7=>show"!-")
  (case T8=>show"!-")
  (case T9=>show"!-")
  (case U0=>show"!,")
  (case U1=>show"!,")
  (case U2=>(dsimp only;refine' XS.c8r ?xqa ?xqb ?xqc ?xqd ?xqe ?xqf ?xqg ?xqh;(case xqa=>k_is);(case xqb=>k_is);(case xqc=>k_is);(case xqd=>rfl);(case xqe=>k_is);(case xqf=>k_is);(case xqg=>rfl);(case xqh=>k_is)))
  (case U3=>(dsimp only;refine' XS.c9o ?ta ?tb ?tc;(case ta=>k_is);(case tb=>k_is);(case tc=>k_is)))
  (case U4=>(dsimp only;k_is))
  (case U5=>show"!.")
  (case U6=>show"!.")
  (case U7=>show"!.")
  (case U8=>show"!.")
  (case U9=>show"!.")
  (case V0=>show"!.")
  (case V1=>show"!.")
  (case V2=>show"!.")
  (case V3=>show"!.")
  (case V4=>show"!.")
  (case V5=>show"!.")
  (case V6=>show"!.")
  (case gp=>(refine' K22.b3s KX G ?ga ?gl ?gs ?l0 ?l1 ?l2 ?l3 ?l4 ?l5 ?l6 ?l7;(case ga=>k_is);(case gl=>k_is);(case gs=>decide);(case l0=>k_is);(case l1=>k_is);(case l2=>k_is);(case l3=>k_is);(case l4=>k_is);(case l5=>k_is);(case l6=>k_is);(case l7=>k_is)))
  (case nd=>(unfold K22.Ar.nd;decide))
