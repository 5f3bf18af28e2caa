import PyProof.Rows.All
import Wide.All
import OpenK.AllK
import Wide.FinOn
import Lean
import PyProof.EqAt
import PyProof.EqKinds
import PyProof.TupleCall
import KE.KIntText
import PyProof.Rows.SortShell
import PyProof.Rows.CallKwBuiltin
import KE.KSortKey
import KE.KDictSum
import KE.KRevIter
import PyProof.ExcBaseAll.ValueError
import PyProof.ReprRoads
import PyProof.DictTruth
import PyProof.Rows.SeqRoads
import KE.KIsNot
import PyProof.ExcAttrAll.ValueError
import KE.KMinBuiltin
import KE.KDictOf
import PyProof.AttrMissHeap
import PyProof.EnumStmt
import PyProof.EnumMake
import PySem.Challenge.RW_manyhands_k12_taking
set_option linter.all false
set_option genSizeOf false
set_option Elab.async false
set_option maxRecDepth 100000
set_option maxHeartbeats 4000000
def GM:=@PySem.wpAny_bind
def GN:=@Option.bind_eq_some_iff
def GO:=@List.mem_cons_of_mem
def GP:=@PySem.wpAny_pure
def GQ:=@PySem.Heap.get?_push_of_some
def GR:=@List.mem_cons_self
def GS:=@List.mem_append
def GT:=@List.mem_cons
def GU:=@List.mem_append_left
def GV:=@List.mem_append_right
def GW:=@List.size_toArray
def GX:=@Option.map_eq_some_iff
def GY:=@List.length_map
def GZ:=@List.mem_singleton
def HA:=@if_neg
def HB:=@decide_eq_false
def HC:=@if_pos
def HD:=@List.map_cons
def HF:=@decide_eq_true
def HG:=@List.getElem?_eq_some_iff
def HH:=@List.mem_map_of_mem
def HI:=@List.mem_map
def HJ:=@List.length_cons
def HK:=@Nat.le_refl
def HM:=@PySem.Heap.get?_push_size
def HN:=@List.length_append
def HP:=@PySem.Heap.lt_size
def HQ:=@Bool.and_eq_true
def HR:=@List.nodup_cons
def HS:=@decide_eq_true_eq
def HU:=@List.getElem?_eq_getElem
def HV:=@Bool.false_ne_true
def HX:=@Bool.false_eq_true
def HY:=@Nat.lt_of_lt_of_le
def HZ:=@List.map_append
def IA:=@Ne.symm
def IB:=@List.append_nil
def IE:=@List.getElem?_set_ne
def IF:=@Nat.zero_le
def IG:=@PySem.Heap.get?_update_other
def IH:=@Nat.ne_of_lt
def II:=@List.lookup_cons
def IJ:=@Classical.byContradiction
def IK:=@List.getElem?_map
def IL:=@Nat.le_trans
def IM:=@List.nodup_append
def IN:=@Array.getElem?_eq_getElem
def IP:=@PySem.PassesOwn.never
def IQ:=@beq_eq_false_iff_ne
def IR:=@PySem.wpAny_holding
def IS:=@List.getElem?_set_self
def IT:=@PySem.wpAny_call_entry
def IU:=@if_false
def IV:=@PySem.wpAny_truthy_bool
def IW:=@Option.some.inj
def IY:=@List.append_assoc
def IZ:=@List.getElem_mem
def JA:=@PySem.wpAny_callSpecial?_slot
def JB:=@PySem.wpAny_field
def JC:=@beq_iff_eq
def JD:=@Int.emod_lt_of_pos
def JE:=@Array.length_toList
def JF:=@of_decide_eq_true
def JG:=@List.mem_filter
def JH:=@Bool.eq_iff_iff
def JI:=@PySem.sizeLine_eq
def JJ:=@List.map_map
def JK:=@List.length_singleton
def JL:=@List.filter_eq_self
def JM:=@List.not_mem_nil
def JN:=@if_true
def JO:=@Nat.lt_of_le_of_lt
def JP:=@PyProof.Rows.callWith_type1
def JQ:=@Int.emod_nonneg
def JR:=@PyProof.Rows.wpS_bind
def JS:=@PySem.wpAny_mono
def JT:=@List.filter_cons_of_neg
def JU:=@List.getElem?_append_right
def JV:=@Array.getElem?_eq_some_iff
def JW:=@Nat.le_succ
def JX:=@PySem.wpAny_newObj_type
def JY:=@List.nil_append
def JZ:=@List.length_zip
def KA:=@List.drop_eq_getElem_cons
def KB:=@beq_self_eq_true
def KC:=@Option.bind_some
def KD:=@List.getElem?_eq_none
def KG:=@PySem.F.slot_dict_keyiterator_next
def KH:=@PySem.wpAny_rule
def KI:=@List.pairwise_cons
def KJ:=@List.getElem?_replicate
def KL:=@PySem.Heap.get?_update_self
def KM:=@Bool.not_true
def KN:=@Nat.lt_or_ge
def KO:=@List.all_eq_true
def KP:=@PySem.wpAny_setField_rec
def KQ:=@PySem.Calls.spliced_cons
def KR:=@List.replicate_succ
def KS:=@List.filter_congr
def KU:=@List.eraseIdx_eq_take_drop_succ
def KW:=@Int.le_refl
def KY:=@Nat.lt_irrefl
def KZ:=@List.nodup_nil
def LA:=@List.mem_of_find?_eq_some
def LB:=@List.getElem?_append_left
def LF:=@Option.map_some
def LG:=@List.find?_cons
def LH:=@PySem.Heap.SameBut.update
def LJ:=@PySem.wpAny_seqItems
def LK:=@List.filter_cons_of_pos
def LL:=@PySem.wpAny_Call_Name_kw
def LM:=@PySem.Obj.data_mapFields
def LN:=@List.length_range
def LO:=@PySem.mem_of_lookup
def LP:=@List.length_set
def LQ:=@List.forIn_cons
def LR:=@PySem.F.plain_max_loop
def LU:=@PyProof.Rows.wpS_pure
def LV:=@PySem.wpAny_dictEntries
def LW:=@List.cons_append
def LX:=@PySem.wpAny_dictEpoch
def LY:=@Nat.ne_of_gt
def LZ:=@List.map_nil
def MB:=@List.length_replicate
def MC:=@List.getElem?_toArray
def MD:=@List.findIdx?_eq_some_iff_getElem
def MF:=@List.pairwise_iff_getElem
def MH:=@PySem.MeetsSeq.plain_remove_loop
def MJ:=@List.mem_of_getElem?
def ML:=@PySem.wpAny_attempt
def MM:=@PySem.Obj.isFreed_of_fields
def MN:=@PySem.Heap.size_push
def MO:=@List.any_cons
def MQ:=@Bool.and_self
def MU:=@PySem.Calls.evalArgs_plain
def MV:=@PySem.Calls.spliced_nil
def MX:=@List.mem_filterMap
def MY:=@PySem.Paired.length
def MZ:=@PySem.wpAny_typeNameOfWhole_keyiter
def NA:=@List.length_filter_le
def NB:=@Int.sub_self
def NC:=@Array.getElem?_toList
def ND:=@List.flatten_cons
def NE:=@List.all_cons
def NG:=@PySem.Heap.size_after_update
def NH:=@PySem.Calls.callWith_builtin
def NJ:=@PySem.F.slot_NoneType_hash
def NK:=@List.nodup_iff_pairwise_ne
def NM:=@PySem.wpAny_passesOwn
def NN:=@PySem.wpAny_notOrdered_dict
def NO:=@PySem.wpAny_letGo
def NP:=@List.mem_range
def NQ:=@List.length_take
def NR:=@PySem.plainId_quiet
def NS:=@List.filterMap_cons
def NT:=@Nat.le_of_lt
def NU:=@Nat.le_of_eq
def NV:=@PySem.F.slot_tuple_iterator_next
def NW:=@PySem.wpAny_setField
def NX:=@or_false
def NY:=@PySem.F.plainAttrs_list
def NZ:=@PySem.F.plainAttrs_dict
def OA:=@List.length_eq_zero_iff
def OB:=@List.foldl_cons
def OC:=@PyProof.Rows.get?_update_seq
def OD:=@PySem.wpAny_typeNameOf_keyiter
def OE:=@PyProof.Rows.slot_tuple_getitem
def OF:=@Int.toNat_natCast
def OG:=@List.forIn_nil
def OH:=@List.Perm.refl
def OI:=@PySem.codeAny_builtin
def OJ:=@PySem.F.slot_dict_get
def OK:=@List.mem_iff_getElem?
def OL:=@Nat.lt_succ_self
def OM:=@List.perm_middle
def ON:=@List.drop_length
def OO:=@List.mem_iff_getElem
def OP:=@List.cons.injEq
def OQ:=@PySem.F.slot_enumerate_next
def OT:=@PyProof.Rows.listUpdate_at
def OU:=@PySem.F.slot_enumerate_getattribute
def OV:=@not_or
def OX:=@List.getElem_range
def OY:=@List.filter_filter
def OZ:=@List.filter_append
def PB:=@Int.add_zero
def PD:=@PySem.Around.under_plainId
def PF:=@List.getLast?_eq_none_iff
def PH:=@List.findIdx?_eq_none_iff
def PJ:=@PySem.wpAny_specialOf
def PK:=@PySem.wpAny_loadPart'
def PL:=@PySem.wpAny_execs_nil
def PM:=@PySem.slot_dict_contains
def PN:=@PySem.F.args_tuple_add_2
def PP:=@Option.isSome_iff_exists
def PQ:=@Nat.lt_succ_of_lt
def PR:=@List.pairwise_map
def PU:=@decide_true
def PV:=@decide_eq_false_iff_not
def PX:=@PySem.F.entry_tuple_add
def PY:=@List.map_id
def PZ:=@Bool.true_and
def QA:=@PySem.codeAny_mono
def QB:=@Nat.lt_of_not_le
def QC:=@List.zipIdx_cons
def QD:=@PySem.wpAny_loadPart
def QE:=@PySem.F.slot_tuple_add
def QF:=@PySem.wpAny_Call_method
def QG:=@List.zipIdx_nil
def QH:=@List.length_nil
def QI:=@List.filter_map
def QJ:=@Int.zero_add
def QK:=@Bool.not_eq_eq_eq_not
def QL:=@true_and
def QM:=@PySem.wpAny_standAt
def QN:=@PySem.wpAny_newList
def QO:=@PySem.F.args_dict_keyiterator_next_1
def QP:=@Bool.and_false
def QQ:=@PyProof.Rows.wpS_forRange
def QR:=@PyProof.Rows.listItems_at
def QS:=@PySem.F.entry_dict_keyiterator_next
def QT:=@List.map_congr_left
def QU:=@PySem.wpAny_updateSeq
def QV:=@PySem.wpAny_typeOf
def QW:=@PySem.wpAny_isTrue_Compare1
def QX:=@PySem.wpAny_isOneOf_keyiter
def QY:=@List.find?_eq_none
def QZ:=@PySem.F.slot_zip_next
def RA:=@Bool.false_or
def RB:=@PySem.call_meets
def RC:=@PySem.MeetsSeq.entry_remove_loop
def RD:=@PySem.wpAny_updateSeq_pair
def RE:=@PySem.wpAny_updateDictKeys
def RF:=@bne_self_eq_false
def RG:=@List.any_eq_false
def RH:=@PySem.wpAny_tryCatch
def RI:=@PySem.wpAny_newTuple
def RJ:=@PySem.wpAny_fieldsOf
def RK:=@decide_false
def RL:=@Nat.zero_add
def RM:=@List.getElem_map
def RN:=@List.filter_cons
def RO:=@PySem.F.slot_dict_setdefault
def RP:=@PySem.wpAny_onRaise
def RQ:=@PySem.strLen_append
def RS:=@PySem.W.looks_subIn
def RT:=@PySem.W.kia_one
def RU:=@PySem.SeqAt.EqAt.int_int
def RX:=@Nat.le_antisymm
def RY:=@List.of_mem_zip
set_option hygiene false
section open Lean
def z'E:Nat->Syntax->String
|0,_=>""
|n+1,s=>match s with
 |.node _ k a=>a.foldl (λr x=>r++z'E n x) s!"n{a.size} {(toString k).replace "Lean.Parser." "~"}\n"
 |.atom _ v=>s!"a{v}\n"
 |.ident _ _ v _=>s!"i{v}\n"
 |_=>"m\n"
def z'D(f:SourceInfo):Nat->List String->Syntax×List String
|n+1,x::l=>let r:=(x.drop 1).toString;match x.front with
 |'n'=>let c:=(r.takeWhile Char.isDigit).toString;let (a,l):=c.toNat!.fold (λ_ _ (a,l)=>let (y,l):=z'D f n l;(a.push y,l)) (#[],l);(.node f ((r.drop (c.length+1)).toString.replace "~" "Lean.Parser.").toName a,l)
 |'a'=>(.atom f r,l)
 |'i'=>(.ident f r.toRawSubstring r.toName [],l)
 |_=>(.missing,l)
|_,l=>(.missing,l)
def z'K:List (String×String):=[("P","n3 ~Term.paren\nn2 ~Term.hygienicLParen\na(\nn1 hygieneInfo\ni[anonymous]"),("D","n1 ~Tactic.tacticSeq\nn1 ~Tactic.tacticSeq1Indented"),("E","n2 ~Term.dotIdent\na."),("A","n2 ~Term.app"),("B","n1 null"),("C","n0 null"),("F","n2 null"),("G","n3 null"),("H","n1 ~Tactic.rcasesPatMed"),("I","n1 ~Tactic.rcasesPat.one"),("J","n2 ~Tactic.rcasesPatLo"),("K","n1 ~Tactic.optConfig"),("L","n4 ~Term.basicFun"),("M","n1 ~Term.hole\na_"),("N","n2 ~Term.byTactic\naby")]
def z'Z(r:SourceInfo)(f:String):Syntax:=(z'D r 999 (((f.takeWhile (·≠'\r')).toString.splitOn "\n").flatMap λs=>match z'K.lookup s with|some x=>x.splitOn "\n"|_=>[s])).1
local macro_rules|`(z [$x,*])=>do let a:=x.getElems;let mut r:="";for i in [0:a.size/2] do {r:=s!"{r}\r{match a[2*i]!.raw.isStrLit? with|some s=>s|_=>a[2*i]!.raw.getId.toString}\r{z'E 999 a[2*i+1]!}"};return (Syntax.mkStrLit (z'K.foldl (λr p=>r.replace (p.2++"\n") (p.1++"\n")) r)).raw
def z't't:String:=z ["pc!",(by simp[Bk,As,sSeq,Dr,Bf,Bj,Bi,Ds,Cn,fAnd,He,By,fT,Cu,fVar,Ei,f2,ltD,Ih,Hq,Kc,Jc,Bu,Co,f1,aCons,aNil,Ey,fC,Fb,Bn,Ag,Dq,Cm,modD,Av,Bp,ixD,atI,Eh,Au,Eb,Dj,Ay,Al,Ak,Bc,Am,Bv,fIf,Cf,HT.sIx,List.getElem?_cons_zero,List.getElem?_cons_succ]),"!6",(by split at e),"!#",(by refine' DL.bB KX G ?a ?l ?c ?k ?b;(case a=>k_is);(case l=>k_is);(case c=>k_is);(case k=>k_is);(case b=>exact λ_ _ _ _ _ _=>DL.mF λ_=>rfl)),"#-",(by exact this),"#=",(by dsimp only),"!$",(by refine' DL.bB KX G ?a ?l ?c ?k ?b;(case a=>k_is);(case l=>k_is);(case c=>k_is);(case k=>k_is);(case b=>exact λ_ _ _ _ _ _=>DL.oJ λ_ _=>rfl)),"!|",(by constructor),"!*",(by refine' DL.cX KX G ?a;(case a=>k_is)),"!,",(by dsimp only;refine' DL.dD KX G ?a;(case a=>k_is)),"!1",(by dsimp only;(show W.findIn _ _ _=_);k_is),"!4",(by intro x y dx dy d G H Q sub rx ry e k),"!8",(by rename_i h;cases e;subst h),"!A",(by obtain⟨t,rfl⟩:=rx),"!C",(by intro h1 s Z H Q I h),"!G",(by rename_i hl;cases e),"!3",(by intro X hP hw hK hc i h1 s Z H E I hf st hg;subst hP hw hK),"!:",(by obtain⟨v,rfl,rv⟩:=eP r),"!?",(by obtain⟨ka,fq⟩:=eE ha),"!v",(by simp only[HX,IU]),"#(",(by by_cases hk:k=d),"!2",(by refine lU C_ ?_;refine lU C_ ?_;refine lU C_ ?_),"!5",(by obtain⟨f0,f1,f2,f3,f4,f5⟩:=hf it d_),"!>",(by obtain⟨x,e1,e⟩:=GN.mp e),"#>",(by by_cases hb:b=a),"!R",(by refine GM K_;dsimp only),"!%",(by dsimp only;refine' DL.eW ?a ?i ?l ?c ?k ?b;(case a=>k_is);(case i=>k_is);(case l=>k_is);(case c=>k_is);(case k=>k_is);(case b=>exact λ_ _ _ _ _ _=>DL.oJ λ_ _=>rfl)),"!+",(by refine' DL.nU KX G ?a;(case a=>k_is)),"!9",(by obtain⟨o',e1⟩:=I.base.there b o e hx),"!H",(by obtain⟨o,ho,rfl⟩:=HI.mp hd),"!N",(by intro vs ds d G H Q sub r e k),"!p",(by exact k _ G H aD! Aj.bl),"#2",(by simp only[KM,HX,IU]),"#5",(by rename_i c;show"!6"),"#7",(by funext b;unfold mup),"#A",(by rw[ff!];exact KW _),"!'",(by dsimp only;refine' DL.eW ?a ?i ?l ?c ?k ?b;(case a=>k_is);(case i=>k_is);(case l=>k_is);(case c=>k_is);(case k=>k_is);(case b=>exact λ_ _ _ _ _ _=>DL.us4 λ_ _ _ _=>rfl)),"!(",(by refine' DL.bB KX G ?a ?l ?c ?k ?b;(case a=>k_is);(case l=>k_is);(case c=>k_is);(case k=>k_is);(case b=>exact λ_ _ _ _ _ _=>DL.us3 λ_ _ _=>rfl)),"!.",(by dsimp only;refine' XS.zI ?xqa ?xqb ?xqc ?xqd ?xqe ?xqf ?xqg ?xqh;(case xqa=>k_is);(case xqb=>k_is);(case xqc=>k_is);(case xqd=>rfl);(case xqe=>k_is);(case xqf=>k_is);(case xqg=>rfl);(case xqh=>k_is)),"!@",(by obtain⟨sl,e1⟩:=I.base.slot b o e n hb hx),"!I",(by obtain⟨ds,e1,e⟩:=GN.mp e;show"!6"),"!P",(by obtain⟨e,n,ne,nf,d⟩:=I.pin p hp),"!Q",(by obtain⟨its,r,pl,hz⟩:=I.list hq),"!Y",(by obtain⟨q0,h0,rfl⟩:=HI.mp hq),"!Z",(by obtain⟨p,vs,rfl,q,rr⟩:=bN r),"![",(by obtain⟨af,fd,Y,h2,h3,h4⟩:=F),"!^",(by cases aX rx;cases aX ry;cases e),"!k",(by subst e;exact I1.fpOk u! (I1.hok.fresh u!)),"!s",(by subst hb;rw[bK]at e;cases e),"!t",(by rename_i h;rw[HQ,HQ,HS]at h),"!u",(by obtain⟨hp,g,d,tk,os⟩:=s),"!z",(by rw[NB,PB]at this;exact ⟨trivial,this⟩),"#+",(by obtain⟨ep,ht⟩:=hA.tk),"#1",(by obtain⟨a,rfl,q⟩:=hx),"#H",(by rename_i p;cases fH r),"!&",(by dsimp only;refine' DL.eW ?a ?i ?l ?c ?k ?b;(case a=>k_is);(case i=>k_is);(case l=>k_is);(case c=>k_is);(case k=>k_is);(case b=>exact λ_ _ _ _ _ _=>DL.us3 λ_ _ _=>rfl)),"!-",(by dsimp only;refine'⟨?pg,?hd,?po,?sa⟩;(case pg=>k_is);(case hd=>k_is);(case po=>k_is);(case sa=>k_is)),"!/",(by dsimp only;k_is),"!0",(by dsimp only;refine' K12.xP ?na ?nb ?nc ?ne ?nf ?ng ?nh ?ni (by decide) ?nj ?nk ?nl;(case na=>k_is);(case nb=>k_is);(case nc=>k_is);(case ne=>k_is);(case nf=>k_is);(case ng=>k_is);(case nh=>k_is);(case ni=>k_is);(case nj=>k_is);(case nk=>k_is);(case nl=>k_is)),"!7",(by obtain⟨v1,t1,rfl,r1,rr⟩:=bE rr;obtain⟨v2,t2,rfl,r2,rr⟩:=bE rr;cases bY rr),"!D",(by obtain⟨oc,od,kV,bn,pm,an,ah,ct,iq,rfl,lk,bz⟩:=F.ex),"!K",(by obtain⟨hh,g,d,t,os⟩:=s;have L0:=I.type (M:=bD!)),"!O",(by unfold Af at h;obtain⟨u,r,e1,q,t⟩:=h;subst e1),"!T",(by unfold Aj at h ⊢;obtain⟨a,vs,e,q,r⟩:=h),"!U",(by obtain⟨⟨o,z1,z2,z3⟩,z4⟩:=z;exact j2!),"!W",(by obtain⟨a',b',c',e',hm⟩:=w.sgs x hx q hq),"!`",(by show"!:";obtain⟨a,ws,rfl,q,rr⟩:=bJ rv),"!b",(by intro x y dx dy d M G H Q sub m rx ry e k),"!d",(by obtain⟨n1,n2⟩:=xG λx hx=>(hj_).dg),"!i",(by cases vD I n r ru<;>cases vD I n' r' az),"!o",(by have p:((D.non::ck!)).Perm (n::D.non::aM!):=((List.Perm.cons _ OM)).trans (List.Perm.swap _ _ _)),"!w",(by obtain⟨_,vs,Y,h2⟩:=m.cell a _ hM),"!{",(by obtain⟨its,r,pl,hz⟩:=I.tuple hq),"!~",(by subst hb;rw[mup_same]at e;cases e),"##",(by rw[HA c];exact keep rfl rfl w.inv),"#$",(by obtain⟨o,e,c,d⟩:=st;exact ⟨o,e,λv z=>by rw[d]at z;cases z⟩),"#%",(by obtain⟨a,vs,rfl,qa,ra⟩:=bN rx),"#&",(by obtain⟨a,vs,rfl,qa,ra⟩:=bJ rx),"#'",(by intro vs ds d M G H Q sub m r e k),"#*",(by obtain⟨sl,km⟩:=so.2.2 b o eb),"#3",(by simp only[HX,IU,II,hx]at h ⊢),"#6",(by obtain⟨ds,e1,e'⟩:=GN.mp e'),"#B",(by obtain⟨rfl,rfl|rfl⟩:=d l),"#C",(by obtain⟨o,es,ep,ho,r⟩:=hm),"#I",(by unfold Oh;rw[HA c',HA cy,f]),"#J",(by obtain⟨q,hq,e⟩:=HI.mp z),"#K",(by obtain⟨od,J,hl⟩:=I.look),"!!",(by dsimp only;refine' DL.b4e (DL.dD KX G ?g) ?a ?i ?l ?c ?k ?mm ?kc ?b;(case g=>k_is);(case a=>k_is);(case i=>k_is);(case l=>k_is);(case c=>k_is);(case k=>k_is);(case mm=>k_is);(case kc=>k_is);(case b=>exact λ_ _ _ _ _ _=>DL.mF λ_=>rfl)),"!)",(by refine' DL.bB KX G ?a ?l ?c ?k ?b;(case a=>k_is);(case l=>k_is);(case c=>k_is);(case k=>k_is);(case b=>exact λ_ _ _ _ _ _=>DL.us4 λ_ _ _ _=>rfl)),"!;",(by refine cW b1_ ?_;rintro v s1 ⟨x,H1,I1,r1,q1⟩;refine cW fz_ ?_;rintro u s2 ⟨y,H2,I2,r2,q2⟩;exact hf v u s2 x y H2 I2 r1 r2 q2),"!<",(by obtain⟨ob,eo,ec,ed⟩:=id g1;obtain⟨ot,yt,_,nt,yu⟩:=g2;unfold Builtin.SmallTypes.nextOf;refine GM (JA (name:=eV!) g1.typeIs NV (IT NV g1.typeIs F.entry_tuple_iterator_next ?_ (F.args_tuple_iterator_next_1 _)));show wpAny _ _ (field (.ref jt) 0>>=_) _ _ s),"!=",(by obtain⟨aj,e4,e3⟩:=cC e3;obtain⟨go,yl⟩:=j5 _ hd;refine ⟨go,λcm H2=>∃G2 bd M2,Gm X.prog X.w X.K own M1 G1 dL_ M2 G2 H2 cm bd/\El bnd ck q1 xU! bd M2 R,λcm H2 ⟨G2,bd,M2,Y,h3⟩=>⟨e_ - cT_,m_,ai,rfl,G2,bd,M2,Y,h3⟩,nV_⟩;obtain⟨G2,x2,r2⟩:=yl v H2 hy;have uj:=b8.grow gU_ (b8.st.mr.ext x2)),"!B",(by obtain⟨us,rv,p1,_⟩:=I.list qa;obtain⟨us',ax,p2,_⟩:=I.list qb;have Y:=aH rd;have h2:=aH re;have h3:=d4_),"!E",(by unfold Builtin.SmallTypes.ownedTupleIsFree;refine GM (JB gz rfl (x:=bH!) rfl K_);simp only[JN];refine GM eV_;refine GM (JB gz rfl (x:=.ref TO) rfl ?_)),"!F",(by rintro⟨⟨⟩,ac⟩ s' ⟨rfl,a1,a2,a3⟩;dsimp only;obtain⟨L',b1,b2,b3⟩:=pR ii hk mw a1 a3),"!J",(by intro h1 s Z H x y v u Q I rx ry h;obtain⟨i,j,rfl,rfl,q⟩:=h;show"!A";obtain⟨t',rfl⟩:=ry),"!L",(by obtain⟨i,hi,q⟩:=lC hb;obtain⟨p,ds,vs,Y,h2,h3,h4,h5⟩:=er.own_ i hi;rw[q]at h2;cases h2),"!M",(by show"!?";obtain⟨kb,qe⟩:=eE hb;obtain⟨kc,z5⟩:=rX cb;refine lU C_ ?_;refine ifT (aY.trans (congrArg some a7m)) ?_),"!S",(by obtain⟨j5,j6⟩:=dr n M' G' H' b8.x.g b8.st.or.sub b8.st.mr c9;by_cases ai:n<e_),"!V",(by simp only[(show Builtin.Dict_items.ownsTuple "dict_keyiterator"=false by decide),HX,IU];show wpAny v! A.in1 (if(Value.ref d==bZ_)=true then _ else _) _ _ s;rw[(HA (λz:(Value.ref d==Value.none)=true=>HV z))];refine GM (GP (GM (LV uk ul ?_)));rw[L_]),"!X",(by exact zG (s:=({s with heap:=Y})) (fo:=none) a3 hn a1 λh2 b1 b2 b3 b4=>k h2 T hp_ b1 (a2.skip b2 (by intro x hx;simp at hx;subst hx;exact .inr (UZ a0))) b3),"!]",(by have hT:=al.typeIs;obtain⟨o,ho,hc,hd⟩:=id al;obtain⟨od,uk,_,ul⟩:=id D),"!_",(by have I1:Inv X h1 Z H {s with heap:=h',toks:=tk}:=I.turned lJ! f0 f1 f3 f4 f5),"!a",(by obtain⟨cl,ce⟩:=a8c (X:=X) (scope:=scope) λp hp hf=>I.ok.has p.1 (g6 p hp hf)),"!c",(by refine GM (JS ag (?_) λ_ _ z=>z);rintro old s' ⟨e1,o,q1,q2,q3⟩;subst q1 q2;exact GM (NO (GP ⟨_,rfl,q3⟩))),"!e",(by obtain⟨f7,H3,I3,n3⟩:=q3;obtain⟨m',hm,w3⟩:=hN f7 H3 n3;exact ⟨m',hm,f7,H3,I3,w3⟩),"!f",(by obtain⟨i,hi⟩:=OK.mp hv;obtain⟨d,_,p⟩:=fW z hi;exact⟨_,_,p⟩),"!g",(by have:X.env.scope.names.lookup x=some .free:=hk;rw[k]at this;cases this),"!h",(by have hf:=a2l x k;have hl:∀i∈plc es cZ!,i<es.size:=λi hi=>b2q hi),"!j",(by rename_i ho;intro A' Q' E' s' k q;unfold isType loadHead;exact GM (QD (k _ _ (X _ _ ho)) (GP q))),"!l",(by simp only[sliceBounds,HT.sIx,Option.getD_none,(show(1:Int)>0 by decide),JN];by_cases h:i<0),"!m",(by obtain⟨x,hx,rfl⟩:=HI.mp hd;rw[lW hj_ ho]at z;exact c (JF z▸hx)),"!n",(by obtain⟨v,rfl,r1⟩:=eP r;obtain⟨p,ys,rfl,q,rr⟩:=wY sub m r1 e1),"!q",(by show"!>";obtain⟨q,e2,e⟩:=GN.mp e;obtain⟨YO,e3,rfl⟩:=GX.mp e),"!r",(by refine GM (JB eo ed (x:=.ref tt) rfl ?_);rw[(HA (show¬((Value.ref tt==Value.none)=true)from HV))];refine GM (JB eo ed (x:=.int n 0) rfl ?_);refine GM (LJ yt yu ?_);simp only[OF,g3]),"!x",(by have z:14<(b0_).length:=QB z;have hx:b0_[14]?=some b0_[14]:=HU z),"!y",(by show (wpAny _ _ (field jD! 2>>=_) _ _ _);refine GM (JB gz rfl (x:=.bool false) rfl ?_);refine GM (JB gz rfl (x:=.ref TI) rfl ?_);refine GM (LJ gI rfl ?_);refine GM ?_),"!}",(by obtain⟨e,he,hv⟩:=hi.2 i acc[i] (by rw[IN Y]);rw[he,NC,IN Y,hv];rfl),"#!",(by show"!?";refine lU C_ ?_;refine lU C_ ?_;refine ifT (aY.trans (congrArg some a7n)) ?_),"#)",(by rw[e];unfold Kz.inS;simp only[Jh,hw,KC];rw[((gC ho.dg).1),n1,HF n2]),"#,",(by obtain⟨_,_,_,_,o,_,_,e,ex,_⟩:=I.hok p _ hk;exact ⟨o,e,ex⟩),"#.",(by have rs:∀j∈rest,j<es.size:=λj hj=>h2 j (GO _ hj)),"#/",(by have:=n14 0;have:=n14 3;have:=n14 5;have:=n14 15;omega),"#0",(by subst hj;rw[hi]at e1;cases e1;rw[IS SO]at e2;cases e2),"#4",(by show DO X.prog X.w X.K ps.length g i7! H1 Q _;rw[IB]),"#8",(by show"![";rintro h1 s Z H Q I ⟨G,ρ,M,R,sr,e',k⟩),"#9",(by rw[GW,GW,<-h3,<-h4,<-Y,<-h2];by_cases hl:e_=aa_),"#:",(by obtain⟨its,rv,⟨o,Y,h2,n,h3⟩,_⟩:=I.tuple gq_),"#;",(by have ne:∀{b u},H b=some u->b≠p:=λe=>cD e hp),"#<",(by obtain⟨hl,Y,_⟩:=MD.mp e;rw[RM]at Y;rw[GY]at hl),"#?",(by simp[n2_];refine iK h dh ?_;by_cases c1:i∈W.its),"#@",(by show"!:";obtain⟨a,ws,rfl,q,rr⟩:=bN rv;cases e),"#D",(by have n1:=nd.1;have n2:=nd.2;rw[<-LW,GS,OV]at n1),"#E",(by simp only[Op.nm,D.tup.injEq,OP,D.int.injEq]at e),"#F",(by rw[nO kH!,nO kH_];exact a6h (mm p hp) (mm q bg)),"#G",(by rename_i σ ep hM;obtain⟨kk,e1,e2⟩:=GN.mp e),"#L",(by cases dY ry;cases e;refine p!;rw[vE rx];show"!p"),"#M",(by obtain⟨ad,σ,vs,j2,TW,yq,yr,hn,hs⟩:=hd.ex),"#N",(by cases e;refine ⟨G,ρ,_,er,?_,k⟩;show((Option.some ds)).bind _=_;simp[hl])]
def z'0:String:=z [a!,(by omega),b!,List D,c!,List Op,d!,Or.inl rfl,e!,model X.prog X.w,g!,xs.length,h!,Txt P w K mg t,i!,wl k!,j!,Fl->Mh->Prop,k!,fVar 0,l!,List Nat,n!,aQ _,o!,List V,p!,⟨rfl,?_⟩,q!,λ_ _=>rfl,r!,List dW_,u!,HK _,v!,model P w,w!,Ah.units hr,x!,(x==lp_)=false,y!,aA 0,z!,["thing"],A!,HC rfl,B!,Ar G H,C!,fVar 1,D!,List Str,E!,.ref a,F!,os.map Op.v,G!,Ax 0,H!,some o.v,I!,s2.heap.objs.size,J!,T++W,K!,fVar 2,L!,Str->Option Value,M!,wl K!,N!,.int i,O!,ps.length,P!,ys.length,Q!,DE X own a fa,R!,Option D,S!,i+1,T!,starEach am! X.env=dn!::starEach es X.env,U!,aA 1,V!,.ref e,W!,λ_=>True,X!,.bl false,Y!,g_+1,Z!,aD aL!,Aa!,⟨λh1 s Z H Q I ⟨G,ρ,M,R,st,e,k⟩=>h h1 s Z H Q I oO!⟩,Ab!,w.its x hx,Ac!,Mi W z8! a8,Ad!,⟨_,zq!,h⟩,Ae!,hg.winv w.inv hc.1 hc.2.1 hc.2.2,Af!,Af.cons a4_ q2,Ag!,Qn X.prog X.w X.K own G H Z ρ M,Ah!,⟨_,rfl,k _ M' G' H' r' x' m'⟩,Ai!,k _ M1 _ G1 H1 r1 x1 m1 Aj.bl,Aj!,.tup (.str k::a::r),Ak!,.tup (.str k::a::b::r),Al!,[aa!,a0_,cp!],Am!,f3 ρ=some c,An!,Aa gE! (Aa (wl f2) (Aa (wl f3) Ac)),Ao!,Aa gE! (Aa (wl f2) (Aa (wl f3) (Aa (wl f4) Ac))),Ap!,f1 hc _ hg,Aq!,some (.inl (.inr "bin")),Ar!,Kr σ d ep,As!,∀a7 s',Inv X h1 Z j3! s'->Fu X.prog X.w X.K G j3! a Ar_->Q () s',At!,⟨_,rfl,IV h⟩,Au!,Str.ofString "undo"==Str.ofString "undo",Av!,.builtin "dict.get",Aw!,∀a,k' (f a)=k a,Ax!,(a.map Op.key).Nodup,Ay!,zQ I Y D' fh h4 ?_,Az!,ixD o.v b7!,AA!,λx=>eqD' x bS_,AC!,(∀o∈os,DG o.d),AD!,Sa .str os acc,AE!,Bq acc a bv_,AF!,mup M p (.dct AE! AE_),AG!,qB (A:=X.A) a! I m sub e ⟨_,r,rx⟩ hk λs' I'=>GP ⟨.bl _,H,I',rfl,q⟩,AH!,.dct jz bc,AI!,(λx=>by simp),AJ!,(oX_).getD .non,AK!,[gT_,none,none,none,none],AL!,x1.trans gU_ m1,AM!,⟨ys,z,rfl⟩,AN!,mup M2 q.1 (.lst (q.2++[v])),AO!,List (Addr×Jy),AP!,(bh!).trans (.write m2 x2.sub z3) m2,AQ!,MU (KQ (ha.run I1 e7! r1 λy M2 yv G2 H2 iv s2 r2 x2 m2 q2 I2 ry=>MV ?_)),AR!,Hm fo fa fb,AS!,hb.run I2 AR_ r2 λz M3 zv G3 H3 jv s3 r3 x3 m3 q3 I3 rz=>MV ?_,AT!,q2.mono x3.g,AU!,⟨zv,q3,rz⟩,AV!,(a,.dct [] 0),AW!,List ao_->Mh->Prop,AX!,MP X own pos keys kg fp,AY!,([.hid,.wri,.nums,.dir false,.row Db true,.fol Db true,.pre Db true,.row root true,.fol root true,.pre root true,.dir true,.par,.ob]:List Sw),AZ!,.fol root true,A0!,.pre root true,A1!,(by rw[HN,JK];omega),A2!,Zl X.prog X.w X.K M0 G0 F0 own cu f,A3!,IE (ne j hj),A4!,λ_ h=>dK!,A5!,λb o e hb=>?_,A6!,HA (λhr=>by rw[(s.root hr).2]at e;cases e),A7!,h2.ok M0 G0 F0,A8!,os.map Op.nm,A9!,h5 q (by rw[qf];simp) wv,Ba!,At ft q1 q2,Bb!,λd M' v G' H' r x m q=>k1 ρ M' G' Z H' r o7_,Bc!,.obj C (Gu x y fs),Bd!,sr.grow x1 m1,Be!,[gT_,aa!,a5_,none,none],Bf!,.Subscript o i p2,Bg!,Cg fo fi f,Bh!,Aa f1 (Aa f2 Ac),Bi!,Ry X own own body q1,Bj!,At ft q1 Bm,Bk!,CS X.K own g bnd,Bl!,⟨G,ρ,M,_,sr.st,e,λds ck M1 J G1 H1 r1 x1 m1 dr=>?_⟩,Bn!,λph M4 G4 YE H4 r4 y0=>⟨G4,ph,M4,y0,r4⟩,Bo!,mq.unbase b8,Bp!,iM [(t.B4,a)] (one ⟨_,i9,pK Y⟩) d_,Bq!,∀cl C ao be fp,Nf bQ! df Bp_,Br!,Cd NL.length ix fi bnd ft fe,Bs!,(by simpa using c),Bt!,(λo ho=>by cases ho),Bu!,Uk X.prog X.w X.K X.mg X.base k x C ps g,Bv!,fx ρ=some cm!,Bw!,Lz h d es ep,Bx!,.int (c+1),By!,t+1+m / 3%3,Bz!,ts.set k By_,BA!,ML (JA (name:=eV!) hT KG (IT KG hT QS ?_ (QO _))),BE!,(show¬((i:Int)<0)from by omega),BF!,Obj.mapFields (·.setIfInBounds 1 pg_),BG!,[E_,ak_,gZ_,a6_,some (.lst [.int (c 0),.int (c 5),.int (c 15)]),some (.lst [.int (t 0),.int (t 5),.int (t 15)]),x6,x7,x8,x9],BH!,s0.heap.objs.size,BI!,(∃old,IsEnum h e it i old),BJ!,D X.A.in1 hh,BK!,Str.ofString "taken",BL!,Str.ofString "waiting",BM!,X.mg "enumerate"=none,BN!,(backTo pos n1!).any c_=false,BO!,Nat.succ_ne_self _,BP!,I1.hok.fresh pl!,BQ!,.Call (.Attribute bR_ "extend" bf) [e] [] ak,BR!,.lst (List.replicate k.toNat ds).flatten,BS!,.BinOp nZ_ .Mult b pos,BT!,upd H1 p ch_,BU!,⟨p,n,vs,rfl,rfl,rq,m_,m_,by rw[<-aH q1];exact fB hl,os!⟩,BV!,aV (d:=.lst []) rfl,BW!,iU aP_ pp_ (aV (gY o)) (nT hA),BX!,getElem?_pos _ k d8,BY!,(by rw[fL,aV!]),BZ!,aV (d:=.int 2) rfl,B0!,.obj t.B5 [fb_],B1!,(by show _<100;simp),B2!,mup_ne (IA w6),B3!,(λi h4 h5=>by rw[show i=x+1 - 1 by omega]),B4!,h m st b h3 h4 u,B5!,Ex Sb W S2 W2,B6!,(by rw[m.2];unfold nh;omega),B7!,(∀i,i<lo->rk r w_ i<=rk r w_ k),B8!,hU.op o ho,B9!,JL.mpr λx hx=>?_,Ca!,(none,a0.size),Cb!,λ_ _ z=>z,Cc!,vO (GP jQ_),Cd!,(∀x∈xs,∀(R:β->Shared->Prop),(∀y,F x y->R y s)->wpAny l_ A (f x) R E s),Ce!,mup_ne (IA at_),Cf!,mup_ne λz=>ho du!,Cg!,[(.int o.h,.fn q)],Ch!,ys.toArray.filterMap id,Ci!,g h' qg z',Cj!,l.filter λx=>Lm x q,Ck!,I2.pin p hp,Cl!,l.map Op.v,Cm!,h.g.sub x py!,Cn!,⟨[a],[(Str.ofString "key",v)]⟩,Co!,some (.lst Cn_),Cp!,s.W.eraseIdx j,Cq!,(c,seqObj "list" ku.toArray n),Cr!,.lst ((s.W.filter pK_).map Op.v),Cs!,.bl (decide (x≠y)),Ct!,fb ρ=some z,Cu!,(c,seqObj "list" ku.toArray e),Cv!,Nk (gN i g0),Cw!,ksk_tail a false e1 aF_ st,Cx!,λo ho=>(by cases ho),Cy!,ds.map fj!,Cz!,List.map_fst_zip pR_,CA!,[q_,ag_,ah!,H!,y4,y5],CB!,(kG_).map X_,CC!,Jq s.heap p.1,CD!,⟨Array.Perm.refl _,rfl,rfl,rfl⟩,CE!,(by rw[hsz];exact pv),CF!,Hn hd_ (Jq s.heap p.1.1)<Hn hd_ (Jq s.heap q.1.1),CG!,(by rw[b3,hd]),CH!,⟨_,OC ha λ_=>#[]⟩,CI!,HC (show o.n<=nh S o.h from c),CJ!,OT ha rfl ?_ kD_ bv!,CK!,Dg (fT v6_),CL!,GQ _ ((CK_).trans q),CM!,(∀b,M0 b≠none->M b=M0 b),CN!,∀o∈Wt,OpF o,CO!,(by simp only[GY];unfold big;omega),CP!,s.heap.IsList l cf!,CQ!,(by rw[JI];omega),CR!,[q_,ah!,a5_,gU!,some g2!],CS!,x1.sub.seq sq,CT!,seqObj "list" its.toArray 0,CU!,(CS_).push CT!,CV!,.dct dS! e0,CW!,mup M q c3_,CX!,List.ext_getElem?,CY!,KD (by rw[JE,hi.1];omega),CZ!,Paired.mapP ok.1 λ_ _ z=>z.1,C0!,(λb hb=>by rw[hc_];exact gi),C1!,decide (¬Ot d),C2!,seqEpoch_at m7 rfl ?_,C3!,(hh_).map X_,C4!,xs.map λd=>D.bl C1!,C5!,!decide C3_,C6!,⟨x,kM!,hb⟩,C7!,∀{af:Addr} {ah:Value} {A:Around} {outer:ai!} {s:Shared} {H:Hp} {E:XK},Ah k n5!->N.Nodup->Ry (n5_).nox [] [] be! q,C8!,W.fnOf "__init__" qual iL! be! aY! .none kV bn pm an ah ct,C9!,∀x∈W,OpF x,Da!,⟨o.v,HH c,by rw[lW ho ho,cY!]⟩,Db!,pJ! - ((s.S++[o]).length:Nat),Dc!,¬(nh s.S o.h<o.n/\o∉s.W/\fi!<8),Dd!,dZ aP_ h.hA.ob hF3]
def z'00:String:=z [a_,Inv X h1 Z H s,b_,(by decide),c_,(·.1),d_,(by simp),e_,ds.length,f_,hr.mono b_,g_,s.heap.objs.size,h_,⟨rfl,rfl,rfl,fL_,rfl,fL_,fL_⟩,i_,Ab->Option D,j_,List Value,k_,(by decide+kernel),l_,model prog w,m_,(by omega),n_,aD y!,o_,wl C!,p_,List ao_,q_,some cg!,r_,aD U!,s_,fC aJ_,t_,D->Mh->Prop,u_,.bl true,v_,List Int,w_,arrOf ac,x_,s1.heap.objs.size,y_,arrOf st,z_,.fn p,A_,.lst xs,B_,.fn a,C_,aY.trans (congrArg some k_),D_,Gl X x,E_,some bw!,F_,fC N_,G_,λx hx=>?_,H_,.ref C,I_,⟨_,rfl⟩,J_,Value->Shared->Prop,K_,GP ?_,L_,HA d_,M_,"hand",N_,.int 0,O_,wl az_,P_,bP w!,Q_,(by decide),R_,(by simp),S_,k+1,T_,fVar 3,U_,aD cd_,V_,os.length,W_,us.length,X_,(·.2),Y_,"self",Z_,.nx ρ,Aa_,pre++[.tup bV!],Ab_,∀Z G H Q ρ M R,Qn X.prog X.w X.K own G H Z ρ M->ft ρ M R->(∀d M' G' H',R d M'->XM M G H M' G' H'->MR X.prog X.w X.K M' G' H'->Q d H')->t Z H Q,Ac_,⟨_,_,rfl⟩,Ad_,(nP!).resolve_right e,Ae_,setT W a z4_,Af_,Mh->D->D->Option D,Ag_,(List.range m'.toNat).map λk=>.tup n9_,Ah_,λv hv q hq=>?_,Ai_,atI (D.str k::r) 0=_,Aj_,Br.laid x1.sub hp,Ak_,.tup (.str k::a::b::c::r),Al_,fo ρ=some d,Am_,⟨Y,h2.mono (Ar.refl G) (aW hb)⟩,An_,f4 ρ=some e,Aq_,λY h2 z q=>?_,Ar_,.dct oL! Ar!,As_,kget σ d=some x,At_,(k=="undo"||k=="redo"),Au_,Str.ofString "redo"==Str.ofString "redo",Av_,α->Int×Int,Aw_,⟨o,rfl,h ho⟩,Ax_,Builtin.Dict.keyAndDefault,Ay_,⟨_,bK,?_⟩,Az_,(Az!).bind λx=>ixD x N_,AB_,[ag_,ah!,y],AC_,.dct acc ep,AD_,⟨v,r1,me⟩,AE_,Kr acc a ep,AF_,(by unfold Sa;rw[hu];exact Y),AG_,[gT_,ah!,none],AH_,(∀b,b≠q->M' b=M b),AI_,[ag_,ah!,a5_,H!,z],AJ_,Mh->List D->Option D,AK_,Pm X.prog X.w X.K r g,AL_,Sa .str c1! [],AM_,λi p h=>(by simp[W0]at h),AN_,cO ha.ok fI hst,AO_,⟨.inl ⟨rfl,ui,Ef.of hH⟩,G1,ρ,M1,_,jZ_,r1,λz M2 u G2 H2 r2 x2 m2 q2=>?_⟩,AP_,.Attribute o "get" bf,AQ_,⟨yv,q2,ry⟩,AR_,(e7!).grow x2 m2,AS_,(a4_).mono x3.g,AT_,⟨yv,AT!,ry⟩,AU_,((r,.obj t.B7 nG_)::(f,.dct kf ef)::(p,.dct kp ep)::l),AV_,dE s.heap.objs.size [] 0,AW_,[(root,.fn r1),(Db,.fn r2)],AX_,[(root,.non),(Db,.non)],AY_,mup M c (.dct (acc++σ) (n+ap!)),AZ_,.fol Db true,A0_,.pre Db true,A1_,(λx h=>by cases h),A2_,λj hj p e=>?_,A3_,.obj t.B6 [],A4_,Br G ke_ G' H',A5_,(by show 1<100;decide),A6_,[_,_,_,_,_,_,_,_],A7_,⟨G,ρ,M,_,sr,e,λρ' M' G' ae H' r b8=>⟨G',ρ',M',R,b8,r,k1,k2⟩,λd M' v G' H' r x m q=>k2 d M' v G' H' r x m q⟩,A8_,[ag_,aa!,a5_,gX_,z],A9_,λd M' v G' H' r x m q=>k1 _ M' G' _ H' r ((o7_).set bx q),Ba_,⟨G,ρ,M,_,sr.st,e,λb M' G' H' r x m=>?_⟩,Bb_,λy hy=>hp y cL!,Bc_,mup M2 p Bc!,Bd_,(Bd!).grow x2 m2,Be_,(by rw[hp.length_eq];omega),Bf_,Pu fo ρ M z_,Bg_,.write m3 x3.sub hM,Bh_,λd M' v G' H' r x m q=>?_,Bi_,Pe ft ρ M false,Bj_,s.cps.toList.map λ_=>.bl true,Bk_,Bs fi bnd q1,Bl_,⟨e_,IF _,rfl,G1,ρ,M1,mq.base,r1⟩,Bn_,λd M4 v G4 H4 r4 x4 m4 q4=>k2 d M4 v G4 H4 r4 (mq.unx x4) m4 q4,Bo_,⟨ou,c7.mr,an_⟩,Bp_,Xt X.prog X.w X.K [] ft,Bq_,∀cl C ao be fp,ME bQ! [] d7 fe,Br_,⟨qu.or.cap NL.length ix hix,m1,an_⟩,Bs_,λd M1 v G1 H1 r1 x1 m1 q1=>?_,Bt_,mup M1 x pe_,Bu_,if h=a then t a+1+m / 3%3 else t h,Bv_,⟨G,_,M,_,⟨⟨er,m,an_⟩,.refl sub,an_⟩,e.2,λρ' M' G' ae H' r sr=>kk _ M' _ G' H' r sr.x sr.st.mr Aj.non,λd M' v G' H' r x m q=>kk d M' v G' H' r x m q⟩,Bw_,(d==sysModules)=false,Bx_,cs.set k Bx!,By_,.int By!,Bz_,s.heap.IsKeyIter it d i es.length ep,BA_,GP (GM h4!),BC_,cH rfl (cH rfl rfl b4b) rfl,BD_,GP (GM (LX uk ul ?_)),BE_,GP (GM (QX hT ?_)),BF_,∀h',Heap.ExtBut it s.heap h'->Q none {s with heap:=h'},BG_,[E_,ak_,gZ_,none,none,none,none,none,none,none],BH_,(λi v=>∃c u,x.cps[i]?=some c/\v=.str an! u),BI_,λa b e=>?_,BJ_,Str.ofString "ours",BK_,⟨#[q.1]⟩,BL_,[.int pk!,.str BK_],BM_,starEach [a] X.env=dh!::starEach [] X.env,BN_,(Str.ofString "taken",.fn ta),BO_,∀b,M b≠none->M' b=M b,BP_,λi h ⟨o,ho,_,hd⟩=>⟨o,ho,λv z=>by rw[hd]at z;cases z⟩,BQ_,0<=k/\k<=1000/\e_*k.toNat<=1000,BR_,((dN_).length:Nat),BS_,a0y b3h (sI ha.ok) hb.ok,BT_,⟨G1,ρ,M1,_,(e7!).grow (.ext xj) pn_,r1.2,λy M2 v G2 H2 r2 x2 m2 q2=>?_⟩,BU_,x1.trans (.ext xj) m1,BV_,mirror xs i j ((j - i) / 2),BW_,.int (lt S h),BX_,nQ (k:=po!) ht rfl,BY_,aV (d:=.int (-1)) rfl,BZ_,λi j h3 h4=>?_,B0_,.obj t.B5 kn!,B1_,.obj t.B5 ko!,B2_,(show x - 1<a0.size by omega),B3_,o.h=0\/o.h=3\/o.h=5\/o.h=15,B4_,λi j h5 h6=>?_,B5_,g2.hS.ch h,B6_,(none,lo,hi),B7_,⟨rfl,lo,lo,rfl,g2,g4,g5⟩,B8_,g.hist hU ho hn,B9_,pendingOf ac,Ca_,⟨hq,rfl,Nat.add_comm _ _⟩,Cb_,(by rw[hp];simp),Cc_,.lst ((cr_).map Op.v++bW!),Cd_,hF yy ta wa out,Ce_,mup_ne (IA aw),Cf_,λv hv R hR=>?_,Cg_,.dct (g3!++Cg!) bU_,Ch_,(Value.type "int"::r),Ci_,mup M wa (.lst (W'.map Op.v)),Cj_,l.filter λx=>Lm x p,Ck_,λp=>Hn pF_ (Jq h p.1),Cl_,gC (h o ho),Cm_,Y.mem_iff.mp (IZ d8),Cn_,(o::l).map Op.v,Co_,s.W.eraseIdx j,Cp_,Em X.prog X.w X.K X.mg X.base Ng k f fd ps w3!,Cq_,some (.int (k+pJ_)),Cr_,.refl h.g.wn,Cs_,Paired c8! kd ku,Ct_,∀H':Hp,H' c=none->Eu X h1 H' c,Cu_,ρ[i]?=some be_,Cv_,Inv X (h1++[kF!,Cu!]) Z H s,Cw_,Obj.mapSeq λ_=>(#[]:Array Value),Cx_,⟨h,JW _⟩,Cy_,.dct (bi.map λo=>hc!) bc,Cz_,Array.toList_inj.mp,CA_,λv hv=>?_,CB_,decide kw_,CC_,λx y F Q hx hy hq=>?_,CD_,(by rw[hsz];omega),CE_,⟨a1,a2,a3⟩,CF_,(by rw[GY];omega),CG_,s.heap.get? a=some (seqObj "list" us.toArray n),CH_,QR ha rfl ?_,CI_,seqEpoch_at uv rfl ?_,CJ_,RI ?_ (by show W_<=_;rw[JI];omega),CK_,IG _ _ (λz=>hb (by rw[z];exact GZ.mpr rfl)),CL_,λb hb=>(mup_ne (cZ hb h0)).trans he_,CM_,(∀o∈os,OpF o),CN_,ps_+pW!<64,CO_,(by rw[HN];simp;omega),CP_,checkCount "sorted" 1 1 _,CQ_,⟨_,lj,rfl⟩,CR_,kws_nil ?_,CS_,(s1.heap.push bY_).update s1.heap.objs.size (Obj.mapSeq (·++aQ!)),CT_,λx hx=>hk x aP!,CU_,(by rw[(cJ _).length_eq,JI];omega),CV_,mup_ne (IA qp),CW_,ItemsOf ph! acc aa_,CY_,λq e=>Bz KF G q.1 e.key,CZ_,P'.mem_iff.mp ho,C0_,λv d=>Ga h3 v (kK_).1 (kK_).2,C1_,L'.map (·.1.2),C2_,ds.map λd=>D.bl (b d),C3_,(∃d∈xs,Ot d),C4_,Hn hi! (Jq h3 p.1.1)<Hn hi! (Jq h3 q.1.1),C5_,λbs=>D.bl nO!,C6_,E t.NoDeed M,C7_,⟨o,hm o ho,rfl⟩,C8_,(by rw[fr b hb];exact hb),Da_,(((hs s.S o.h).length:Nat):Int),Db_,λz=>absurd c z,Dc_,λz=>absurd z c']
def z'a:String:=z [aa!,some a2!,ab!,X.A.units+64<cLine,ac!,X.N[i]?=some x,ad!,Bd 4,ae!,aD aB,af!,.rt d,ag!,ME X own a fa,ah!,some z_,ai!,List Env,aj!,fVar 6,ak!,some (.lst ops),al!,some o.v,am!,(e::es),an!,⟨#[c]⟩,ao!,A.units<cLine,ap!,σ.length,aq!,.ref C0,ar!,(q6_).any c_=false,as!,aG ar_,at!,Or.inr rfl,au!,aZ (gP (nX rfl k_)),av!,r.length,aw!,aN aJ aM y! aB q!,ax!,.fn o,ay!,o.n - 1,az!,.Call (.Name x p) am! [] pos,aA!,Option Int,aB!,fVar 9,aC!,i∉own,aD!,Br.refl sub,aE!,⟨trivial,?_⟩,aF!,W.length,aG!,some v,aH!,X.N.Nodup,aI!,.bl b,aJ!,[a,b],aK!,fVar 8,aL!,aA 2,aM!,u++v,aN!,Dm t M ad V B,aO!,(λ_ _ e=>by cases e),aP!,GO _ hx,aQ!,its.toArray,aR!,Jx P w H h,aS!,List Addr,aT!,Be v u,aU!,nh T yy,aV!,HC hk,aW!,"_law_script",aX!,f2 ixD k! F_,aY!,Ae st,aZ!,Ab->Option Bool,a0!,.ref af,a1!,.type "tuple",a2!,.fn o,a3!,De y=some k,a4!,ME X own e f,a5!,mup_ne hb,a6!,(∀b,M b≠none->M' b=M b),a7!,GZ.mp z,a8!,mixKind P w,a9!,T.length]
def z'aa:String:=z [aa_,es.length,ab_,Ba t M yy a ta wa Wt out S kl ca,ac_,fC b7!,ad_,List α,ae_,dR w!,af_,.int h,ag_,some x1,ah_,.ref f,ai_,fC cD_,aj_,f ρ,ak_,some jR_,al_,.inl rfl,am_,Bd 3,an_,λi hi=>(by cases hi),ao_,D×D,ap_,some z_,aq_,X.calm=true,ar_,aG (λ_ _ h=>aT h),as_,List D,au_,EP X h1 Z Q,av_,"name",aw_,cY 0,ax_,.int 0,ay_,λ_=>some true,az_,fVar 4,aA_,some i,aB_,.ref D,aC_,Ab->Option as_,aD_,.int n,aE_,S.length,aF_,.ref c,aG_,Nd kn o,aH_,PE X a ta,aI_,⟨rfl,rfl⟩,aJ_,.int 1,aK_,fVar 7,aL_,aA 6,aM_,D->Ab->Option Ab,aN_,Bo t M o O W B,aO_,s.length,aP_,aV rfl,aQ_,.tup xs,aR_,some fr!,aS_,Ul X.env.scope x,aT_,I.tok _,aU_,vs.length,aV_,HA hk,aW_,"_law_k",aX_,.lst ys,aY_,λb h=>?_,aZ_,List D->Option D,a0_,some n,a1_,Iy W,a2_,some (.int most),a3_,De d=some k,a4_,q1.mono x2.g,a5_,some c1_,a6_,some kl!,a7_,(env::outer),a8_,fs.length,a9_,I.ok.hd hc]
def z'b:String:=z [ba!,.ref g_,bb!,.ref a,bc!,Ah k X.A,bd!,[M_],be!,Cc st,bf!,(by unfold big;omega),bg!,Ab->Option Fl,bh!,x1.trans x2 m1,bi!,[e,it],bj!,k _ _ al_ e,bk!,some fc!,bl!,j+1,bm!,KF.In s.heap,bn!,Ak ai_,bo!,[Y_,av_],bp!,wl F_,bq!,[M_,bF_],br!,KF w.params,bs!,ρ.set i be_,bt!,.type "bool",bu!,oF a1 a2 a3 a4 a5 a6,bv!,IF _,bw!,scr ns,bx!,Bz X.K G d u,by!,ME X own b fb,bz!,Gm P w KF own M0 G0 F0 M G H Z ρ,bA!,.ref x,bB!,some cu_,bC!,λp hp=>?_,bD!,model P w,bE!,Fw X (compareOp op) r,bF!,λ_=>rfl,bG!,wl cj!,bH!,.none,bI!,items.size,bJ!,Bg M!,bK!,[bN!],bL!,l.length,bM!,aF r_ aP,bN!,"_law_one",bO!,scope.names,bP!,X.pn++h1,bQ!,Lb X scope cl C gb! ao be fp,bR!,Aj KF G d v,bS!,Str×D,bT!,M p=some e3!,bU!,some oD_,bV!,[af_,cV!],bW!,[o.v],bX!,SB kd a0 st,bY!,(s.heap.update a Cw_).push (seqObj "tuple" us.toArray 0),bZ!,ms.map Op.v,b0!,W++ms,b1!,PE X b tb,b2!,.int i,b3!,X.mg x=none,b4!,PE X e te,b5!,LS t M yy a ta wa la lw T W kl ca,b6!,y.length,b7!,.int 3,b8!,[fS!],b9!,"item"]
def z'bb:String:=z [ba_,g i j,bb_,(V_:Nat),bc_,⟨_,e⟩,bd_,aA 9,be_,some d,bf_,List eK!,bg_,Addr->Prop,bh_,MR X.prog X.w X.K M G H,bi_,Array Value,bj_,.fn lw,bk_,Jn T W yy,bl_,eH I q d_,bm_,aCons k! aNil,bn_,A.handled=none,bo_,wl T_,bp_,fVar 5,bq_,aD cJ!,br_,λ_ h=>.inl h,bs_,.type "int",bt_,.type "str",bu_,.tup jy!,bv_,.str k,bw_,some (.int m0),bx_,MR P w KF M G H,by_,HC a!,bz_,OpF o,bA_,h.objs.size,bB_,.fn la,bC_,λo h=>dK!,bD_,λb hb=>?_,bE_,[bb!],bF_,"operation",bG_,Aa o_ Ac,bH_,wl bp_,bI_,Aa i! Ac,bJ_,f2 ixD K! F_,bK_,aA 3,bL_,aA 8,bM_,"_law_number_here",bN_,List eA_,bO_,aD bK_,bP_,t.NoDeed,bQ_,OR KF own G H Z ρ,bR_,.Name x dt,bS_,.str s,bT_,scr ns,bU_,ep+1,bV_,M a=some e3!,bW_,.lst [],bX_,(by rw[GY];unfold big;omega),bY_,seqObj "list" #[] 0,bZ_,Value.none,b0_,hs T k,b1_,ha h1 s Z H _ I h,b2_,.str x,b3_,x≠"__name__",b4_,.ref it,b5_,∀x,foldedSetIterable iter X.env x=pure x,b6_,"_law_ops",b7_,.ref p,b8_,An t.B7 "following" i!,b9_,vs.toArray]
def z'c:String:=z [ca!,aCons K! aNil,cb!,its.toArray.size,cc!,⟨rfl,rfl,rfl,rfl⟩,cd!,aA 7,ce!,(by rw[q];simp),cf!,us.toArray,cg!,.fn a,ch!,H p=none,ci!,some nu_,cj!,fC .non,ck!,(u++n::v),cl!,("parents",.fn a1),cm!,.int j,cn!,[none],co!,some item,cp!,some d,cq!,ME X own o fo,cr!,.int o.h,cs!,aV (d:=ax_) rfl,ct!,S++[o],cu!,Str×V,cv!,upd H a o,cw!,HP e,cx!,List V->Hp->Prop,cy!,Ut X.env.scope x,cz!,.Name x pos,cA!,(by simp;omega),cB!,i.natAbs,cC!,.dct (xs.zipIdx.map λq=>fJ!) g!,cD!,"_law_taken",cE!,As (fC X!),cF!,⟨us,[]⟩,cG!,aD dC,cH!,λx=>!x.1,cI!,λx=>x.1.isSome,cJ!,aA 5,cK!,Ep N ps aY!,cL!,GO _ hy,cM!,scope.kind=.function,cN!,t.NoTime,cO!,.tup ds,cP!,er.grow s1,cQ!,GS.mp hx,cR!,.Name x p2,cS!,(by intros;kernel_rfl),cT!,W.txt i,cU!,eqD d d',cV!,.int m,cW!,some b,cX!,HC bf!,cY!,HF rfl,cZ!,mkHash P w k,c0!,kget σ d,c1!,srt ops,c2!,[ag_,ah!,a5_,H!,gU!],c3!,λq hq=>?_,c4!,upd H s.heap.objs.size AV_,c5!,bM h2,c6!,Ru prog w A s a0 kd r,c7!,W.eraseIdx j,c8!,Bz X.K G,c9!,∀o∈ms,OpF o]
def z'cc:String:=z [ca_,aC y! aK,cb_,dO aB,cc_,f2 ixD az_ s_,cd_,aA 4,ce_,t.Unlike,cf_,Af KF H ds vs,cg_,.lst ds,ch_,.lst vs,ci_,f ρ=some d,cj_,DE X own b fb,ck_,RW t M0 M r f p kf kp,cl_,Aw d=true,cm_,wl fo,cn_,.type "tuple",co_,List DictEntry,cp_,ap!<big,cq_,mup M p c3_,cr_,hs S o.h,cs_,lo+hi,ct_,(by simpa using e),cu_,.fn lw,cv_,T++[o],cw_,hs T o.h,cx_,List Expr,cy_,(x==rc!)=false,cz_,eval o X.env,cA_,[bF_],cB_,Int->Int,cC_,x.length,cD_,.int 2,cE_,ps.zip us,cF_,Ht Ac,cG_,wl s_,cH_,backToKw ak ta!,cI_,Aa i! bG_,cJ_,ns.map V.int,cK_,fVar 10,cL_,Cs X scope NF ix,cM_,∀y∈bO!,y.2≠.cell,cN_,aD bX,cO_,(d::ds),cP_,s1.trans s2,cQ_,(i,p),cR_,B<=B',cS_,λb h=>.inl h,cT_,n+1,cU_,B+20,cV_,cs.length,cW_,(by simp;omega),cX_,.str "root",cY_,Fy ks k,cZ_,l.map c_,c0_,hO.noOb cS!,c1_,.fn q,c2_,λx hx=>(by simp[W0]at hx),c3_,.dct [] 0,c4_,fY b_,c5_,hF yy ta wa out,c6_,o∈U,c7_,some fD!,c8_,o.h==yy,c9_,some A_]
def z'd:String:=z [da!,.int i t,db!,a==sysModules,dc!,aW hb,dd!,Bool->Hp->Prop,de!,.Compare a [op] [b] pos,df!,.builtin "object.__class__",dg!,cW hN! ?_,dh!,(false,eval a X.env),di!,rawInt T,dj!,.dK σ,dk!,ns.length,dl!,"_law_found",dm!,fC (.int 16),dn!,(false,eval e X.env),do!,vs++dvs,dp!,An t.B6 "rows" i!,dq!,bF T.T2 T.W3 n_,dr!,aN aJ aM aL! aB q!,ds!,⟨_,e,rfl⟩,dt!,aN aJ aM cd_ aB q!,du!,.inl z,dv!,aF n_ bM!,dw!,Lb X scope cl G2.objs.size gb! s2 H2 fp,dx!,DE X own e f,dy!,k _ G H aD! Aj.int,dz!,(λz=>nomatch z),dA!,λd hd=>?_,dB!,.pre x b,dC!,IE c8,dD!,.int m,dE!,.inl z,dF!,LH ..,dG!,Ik P w s.heap k u,dH!,σ.map c_,dI!,W.txt a,dJ!,Qp X.K H dx,dK!,(by cases h),dL!,Mh->Prop,dM!,some cm!,dN!,dE d es ep,dO!,j - 1,dP!,fVar 1,dQ!,bZ hp,dR!,(a,oa),dS!,dn.map λo=>hc!,dT!,GS.mp ho,dU!,s.heap.FunFrames base a7_,dV!,xs++ys,dW!,LT M la lw T W,dX!,Z.length,dY!,Z.set i aG!,dZ!,Aq vs us,d0!,.BoolOp .And (b::rest) pos,d1!,.UnaryOp .Not a pos,d2!,W.InstAt s.heap x ox D none,d3!,Lq i,d4!,PassesOwn e! X.A X.env X.xe,d5!,⟨_,dg_,rfl,rfl⟩,d6!,.int j,d7!,List V->Hp->VK->Prop,d8!,x=y,d9!,some ah_]
def z'dd:String:=z [da_,Aq xs us,db_,KY _,dc_,X.s₀.heap.objs.size,dd_,behindInMarks op b=false,de_,Pd X a pn,df_,iF ?_,dg_,HM _ rfl,dh_,f2 b hb,di_,xs.isEmpty,dj_,.ref x,dk_,some jJ!,dl_,f1 Bp bm_,dm_,.str "root",dn_,.fn t.A0,do_,"other",dp_,.ref g_,dq_,An t.B5 "waiting" i!,dr_,[M_,mQ!],ds_,(a,oe),dt_,aI (bW Z!),du_,.inr z,dv_,aF n_ aP,dw_,Gg X.K r g,dx_,v.headD .non,dy_,W.txt x,dz_,i∈W.its,dA_,.fol x b,dB_,(by rw[z.1,z.2]),dC_,Aj X.K H d v,dD_,B+1,dE_,Sum.inr y,dF_,.lst xs,dG_,{s with toks:=tk},dH_,λz=>?_,dI_,A.units+1<cLine,dJ_,λh=>?_,dK_,[ag_,aa!,a5_,gX_,some x.nm],dL_,Dv own Z H1,dM_,(i:Int)+1,dN_,hs S h,dO_,.int h,dP_,arrOf bh,dQ_,Hd t yy a ta wa U s,dR_,sameN o,dS_,Wt++ms,dT_,aV (d:=B_) rfl,dU_,∀b∈frA a7_,∃o,n.get? b=some o,dV_,z▸hb,dW_,Addr×Obj,dX_,Yd X pn f,dY_,.inl rfl,dZ_,eval e X.env,d0_,.BoolOp .And rs! pos,d1_,.bl true,d2_,Mo KF D C,d3_,[v,ov,iv],d4_,rv.length,d5_,((0:Nat):Int),d6_,(b,o),d7_,binaryOp .Add,d8_,(show false=true from hs),d9_,List.replicate 16 [D.int 0]]
def z'e:String:=z [ea!,s.heap.push h4_,eb!,Rz X.K C,ec!,m%bb_,ed!,"_law_waiting",ee!,sk a!,ef!,us++ds,eg!,aCons C! aNil,eh!,Aq dvs ds,ei!,PA X am! t,ej!,Aa M! Ac,ek!,JU tB!,el!,.type T,em!,wl aK!,en!,f2 ixD K! ac_,eo!,λ_=>eqD',ep!,.str an!,eq!,Cq t,er!,.type "list",es!,mQ_=true,et!,aA 10,eu!,cL 3,ev!,cL 4,ew!,.bool true,ex!,⟨t,rfl⟩,ey!,oR w!,ez!,Option Addr,eA!,fC ne!,eB!,List vm!,eC!,"_law_base",eD!,aD dr!,eE!,bF T.T4 T.V1 n_,eF!,Ar.refl G,eG!,Ja own Z G H,eH!,fs ρ,eI!,.lst dV!,eJ!,fi ρ=some y,eK!,D×D×Bool,eL!,wo rows i,eM!,[jb_],eN!,k _ G H aD! Aj.bl,eO!,("rows",.fn a2),eP!,SR KF own G0 F0 G H Z ρ,eQ!,mup_ne Y,eR!,D×D×Bool->Prop,eS!,some dD!,eT!,JW B,eU!,x.cps.size,eV!,Str.ofString "__next__",eW!,.Tuple rf n1 tp,eX!,h.Ns mainGlobals mg,eY!,HB d_,eZ!,rangeD N,e0!,.inl du_,e1!,some 1,e2!,Gw σ,e3!,.dct σ ep,e4!,.int o.h,e5!,[.lst e4_],e6!,MA X own am! fs,e7!,st.grow x1 m1,e8!,Pe ft ρ M true,e9!,(t.A0,a)]
def z'ee:String:=z [ea_,.ins C dx fs,eb_,I.tok _,ec_,"_law_ours",ed_,"_law_message_here",ee_,fC (.int 4),ef_,Em X.prog X.w X.K X.mg X.base CX k f fd ps sp,eg_,Ec X.K fd ps ds,eh_,Jw CX X E,ei_,I.hok.fresh u!,ej_,An t.B7 "preceding" i!,ek_,.builtin id,el_,.ref b,em_,.str "undo",en_,Bd 2,eo_,aU (bL iN),ep_,An t.B5 "taken" i!,eq_,⟨.bl _,H,I,rfl,?_⟩,er_,([]:List Keyword),es_,aC aL! aK,et_,bC (i:=3) nd rfl d!,eu_,Gg.m bQ,ev_,λ_ _ _ _ _=>n_,ew_,.ref fa,ex_,.int 9,ey_,[b6_],ez_,Ar H H',eA_,Str×Addr,eB_,(n,k),eC_,bF T.T2 T.W4 n_,eD_,Hc (Ct T_),eE_,upd H p o,eF_,i∈own,eG_,fa ρ,eH_,fV (bG P_ bQ dr! bX n!),eI_,fVar 0 ρ=some i7_,eJ_,sub.free hp,eK_,(x,p),eL_,.builtin "isinstance",eM_,Mi W n a8,eN_,⟨rfl,h⟩,eO_,⟨G,ρ,_,er,e1,wU!⟩,eP_,GO _ z,eQ_,some jk_,eR_,Aw d'=true,eS_,some cm!,eT_,(by show A.units+1+Dt xs<cLine;omega),eU_,.str s,eV_,KH ?_,eW_,KF.In h,eX_,(.str k::r),eY_,(none,()),eZ_,GP h,e0_,some zO!,e1_,Gb P w KF G σ es,e2_,MA X own es fs,e3_,h3.typeIs,e4_,ops.map Op.v,e5_,De y,e6_,wl fa,e7_,some x.nm,e8_,(by unfold Uo;omega),e9_,⟨_,i1,lX Y⟩]
def z'f:String:=z [fa!,eI Y,fb!,⟨rfl,k⟩,fc!,.int yy,fd!,dN _ _,fe!,n<=a0.size,ff!,(show i=j by omega),fg!,hs S2 h,fh!,(a,b),fi!,s.W.length,fj!,Gv g,fk!,(∀b,M0 b≠none->M' b=M0 b),fl!,Gp Mj dn,fm!,[q_,H!,none],fn!,a==b,fo!,env.frame=some L,fp!,frA a7_,fq!,.own a,fr!,.fn la,fs!,ixD o.v N_,ft!,aW (cD q hn),fu!,T'.length,fv!,(T'.length:Nat),fw!,M p=some hy!,fx!,(hd.length:Nat),fy!,(xC==lp_)=false,fz!,Lv X q7_,fA!,PT X a tA,fB!,.BoolOp .Or rs! pos,fC!,some fD!,fD!,.int k,fE!,(by simpa using hb),fF!,(∀b∈fp,H' b=none),fG!,Value->Value->Sem Value,fH!,aE_<64,fI!,(by kernel_rfl),fJ!,(D.int pk!,q.1),fK!,some sc,fL!,.lst F!,fM!,Ug sc b F! xs j m d w,fN!,some aI!,fO!,["sign"],fP!,o.h==5,fQ!,Gn t,fR!,.str "cut",fS!,"operations",fT!,envOfC qual scope s.heap.objs.size f cd,fU!,Kn N vs,fV!,Fx t.B7 1 (Fd t) Ac,fW!,Dg (fAnd (fT tv!) (fT (f2 Ed C! K!))),fX!,[Y_,b9!,mt!,mt_],fY!,Rr xs lo hi,fZ!,cG cB eZ rfl T.Q4 dJ ca_,f0!,.str an!,f1!,IA hb,f2!,if(er_).isEmpty then 0 else 1,f3!,its.length,f4!,aC uE! aK,f5!,aA 11,f6!,[aW!,aW_],f7!,"_law_most",f8!,W.keepIn KF ah_=true,f9!,fVar 11]
def z'ff:String:=z [fa_,bI rfl jT_,fb_,(Str.ofString "ours",.int yy),fc_,.fn wa,fd_,wpS_get ?_,fe_,.int yy,ff_,Gd U S W,fg_,hs S1 h,fh_,L'.length,fi_,GV _ (GV _ d_),fj_,l.map f,fk_,Bz KF G,fl_,List α->Prop,fm_,.str x t,fn_,A.frames=some a7_,fo_,∀b,g_<=b->n.get? b=none,fp_,tupleKind a8!,fq_,λz=>hb qM_,fr_,λd' hd=>?_,fs_,λ_ q=>q,ft_,.frz o u,fu_,.int (k+hr!),fv_,λb o e n hb hx=>?_,fw_,some (.lst hd),fx_,λb hb=>?_,fy_,List Stmt,fz_,hb h1 s1 Z H1 _ I1 q1,fA_,.BoolOp .Or (b::rest) pos,fB_,X.wish E,fC_,some rI!,fD_,hf b hb,fE_,2 ^ 62,fF_,λz=>(by rw[w]at z;cases z),fG_,hp.objs.size,fH_,srt S,fI_,i != 0,fJ_,.int n,fK_,"_law_other",fL_,(by decide+kernel),fM_,[E_,dk_,a6_,g0!,none,none,none,none],fN_,PA X es t,fO_,some A_,fP_,Cb t,fQ_,Ah S_ X.A,fR_,X.mg x=some H_,fS_,lv sc yy os b a la lw x7 (some (.lst ml!)) x9 x10 x11 x12,fT_,Kz false,fU_,own1 yy,fV_,An t.B6 "texts" i!,fW_,Ai 1 mp!,fX_,f2 ixD K! ai_,fY_,Ai 4 (wl (Dj T_ Al bn!)),fZ_,.str "put",f0_,λ_ _ _ _ _=>a0x,f1_,Xi x,f2_,dL T,f3_,iW T,f4_,bG P_ bQ bd_ bX n!,f5_,bC (i:=4) nd rfl at!,f6_,Qj am.heap H,f7_,aF Z! aP,f8_,NameKind.free,f9_,(by rfl)]
def z'g:String:=z [ga!,HC f9_,gb!,NL++NF,gc!,.ListComp d7 vN_ scope pos,gd!,sK w!,ge!,Bd 10,gf!,∀y∈bO!,y.2=.free->v0!,gg!,fm _ I2.lt,gh!,Aj KF H d v,gi!,ρ.length,gj!,λ_ _ _ h=>h,gk!,r1.mono s2.g,gl!,Bq l d v,gm!,ft ρ,gn!,DA X own am! fs,go!,Br.laid sub hp,gp!,cF (sc:=Ae Jf) rfl k_,gq!,some i7_,gr!,ad .par,gs!,ad r,gt!,.dir b,gu!,(backTo ak n1!).any c_=false,gv!,De i=some ki,gw!,setT W i (cutT g cT!),gx!,setT W i l,gy!,[.int x,.int y,d6!],gz!,Af X.K H ds vs,gA!,.tup gy!,gB!,Be v' u',gC!,(s,c,true),gD!,.Name y py,gE!,wl f1,gF!,s.heap.IsTuple l1 xs,gG!,if Jr W a then a else Db,gH!,.int k,gI!,some E!,gJ!,.str "put",gK!,∀o∈ops,Sx o,gL!,(show v=.none from hy),gM!,List MK,gN!,Kk ks k,gO!,fs ρ=some ds,gP!,Qn P w KF own G H Z ρ M,gQ!,Wk X.prog X.w X.K r gm,gR!,cV h5,gS!,⟨_,_,rfl,k_,k_,rfl⟩,gT!,[ag_,ah!,H!],gU!,some o.nm,gV!,Dl M1 d,gW!,mup M s.heap.objs.size c3_,gX!,(o::os),gY!,mup M p (.dct (Bq σ y v) (Kr σ y ep)),gZ!,hs os h,g0!,some bW_,g1!,.inr al_,g2!,.int o.tm,g3!,kl.map λh=>(D.int h,D.fn (ca h)),g4!,dZ aP_ hA.ob hF2,g5!,a0.toList,g6!,m - 1,g7!,g.sub x py!,g8!,some (.inl (.inl o.h)),g9!,Int×Int]
def z'gg:String:=z [ga_,ce.sub x c h,gb_,[(bP_,-1),(ce_,-2),(cN!,-3)],gc_,G2.objs.size,gd_,Gf bH_,ge_,(λv z=>by cases z),gf_,∀cl C ao be fp,PG bQ! tg g,gg_,bF T.T3 T.V4 n_,gh_,V.ref a,gi_,Br.refl er.sub,gj_,D->D->Option D,gk_,s2.trans s3,gl_,Gc l d,gm_,DT X own a ft,gn_,wl fi,go_,aR cM cN (aO f2_ f_ rfl (aC y! iM_) as!) aB,gp_,kput_len _ _ _,gq_,bS sub q,gr_,.nm x,gs_,Br.laid x.sub hp,gt_,HG.mp Y,gu_,V.ref p,gv_,Oo F0 G1,gw_,λq hq=>?_,gx_,ds.map some++List.replicate (ij_ - e_) none,gy_,.tup jp_,gz_,Af X.K H es ws,gA_,Aj X.K H d' v',gB_,B<3900,gC_,List bS!,gD_,f1 ρ=some a,gE_,(by size_fits),gF_,s.heap.IsTuple l2 ys,gG_,Zk s.heap l1 l2,gH_,(av!:Int),gI_,List Sv,gJ_,(oC!).Nodup,gK_,jM!<=100,gL_,(show u=.none from hx),gM_,ks.Nodup,gN_,Lz s.heap a es ep,gO_,De x=some k,gP_,f ρ M R,gQ_,oQ I sub r hk,gR_,.int o.tm,gS_,(∀b,b≠p->M' b=M b),gT_,some ka_,gU_,.ext x2,gV_,acc.length,gW_,.nx ρ',gX_,some x.v,gY_,Pu f ρ M d,gZ_,some (.int N),g0_,λx h=>dK!,g1_,e≠it,g2_,Int->Addr,g3_,hA.cl h hh,g4_,aV (d:=af_) rfl,g5_,aV (f:=fVar 0) rfl,g6_,x - 1,g7_,mup M q bW_,g8_,.inr du!,g9_,s.W.map Op.v]
def z'h:String:=z [ha!,ku.zip us,hb!,.done pN_,hc!,(o.nm,o.v),hd!,dn.length,he!,some (.inr [.inl o.h,.inl o.n]),hf!,.lst bZ!,hg!,es.map jR!,hh!,us.zip us,hi!,(C3!).map kf2,hj!,W.map Op.v,hl!,Y.objs.size,hm!,(show h.get? a=some _ from x),hn!,∀b u,h.get? b=some u->h'.get? b=some u,ho!,[aR_,bB!,c7_,y3,H!],hp!,hW o ho,hq!,(λz=>by cases z),hr!,(fu!:Nat) - (a9!:Nat),hs!,Qj h H,ht!,Hf hs_ P w KF mg base N qual scope f cd A outer s H E,hu!,I.ok.bs b o e,hv!,HP ho,hw!,(∀x c,X.env.cells.lookup x=some c->c≠b),hx!,Jx X.prog X.w H' h',hy!,.dct hw_ ep,hz!,vd b o e hx,hA!,o.h=yy/\hd<o.n,hB!,λz=>hc qM_,hC!,GU _ z,hD!,Pd X a pn,hE!,X.pn++h1++[ds_],hF!,TP X h1 Z Q,hG!,λj hj=>(by cases hj),hH!,PE X e t,hI!,cW b1_ ?_,hJ!,its.toList,hK!,ok.above,hL!,⟨ok.mod,ok.kind,ok.glob,ok.blt,hK!,ok.inj,ok.has,ok.cab,ok.hd,hK_,ok.stk,ok.exf,ok.bs,ok.bsz,ok.noex,ok.exfs,ok.funs,ok.frf⟩,hM!,PS X st t,hN!,he h1 s Z H _ I h,hO!,.builtin "getset_descriptor.__get__",hP!,PG X tg g,hQ!,⟨.int _,H,aT_,I_,q⟩,hR!,knF ms J!,hS!,pyNext b4_,hT!,full.length,hU!,.lst ((J!).map Op.v),hV!,Gl X "range",hW!,(false,eval b X.env),hX!,GU _ hp,hY!,Zm r ta tb,hZ!,decide (i<=j),h0!,lastMarks [op,ip] [b,c]=false,h1!,(by simp only[GW];omega),h2!,if i<0 then -i else i,h3!,((i:Nat):Int),h4!,GM ?_,h5!,W.instObj C g_,h6!,(show False from r),h7!,H a=some ea_,h8!,.inr ho,h9!,"_law_hand"]
def z'hh:String:=z [ha_,seqObj "list" us'.toArray n',hb_,x.h=o.h/\x.n=o.n,hc_,GZ.mp hb,hd_,(CB!).map fj!,he_,fr b hb,hf_,.ref l,hg_,us.toArray.zip cf!,hh_,(hh!).zip ds,hi_,h'.objs.size,hj_,hW x hx,hk_,hm o GR,hl_,o.ExactDict,hm_,s.heap.update T qj!,hn_,Gd U T W,ho_,.own x,hp_,.inr a0,hq_,H a=none,hr_,out b o e hx,hs_,Vu base P w,ht_,X.A.handled,hu_,ixD o.v aJ_,hv_,b∈X.ex\/dc_<=b,hw_,kvO kn,hx_,kn.length,hy_,ev yy la lw xs al! ap_ x6 x7 x8 x9 x10 x11,hz_,I.base.keep b o e n hb hx,hA_,frs X.stack,hB_,.type "BaseException",hC_,ev yy la lw xs x4 ap_ x6 x7 e7_ x9 nd! x11,hD_,(X.env::X.outer),hE_,.int (-3),hF_,TX X M0 G0 F0 own own1 q1,hG_,.Name xC p3,hH_,∀d6,isTrue e X.env d6=(do let v <-d6;standAt e.pos;holding [v] lt!),hI_,.bl false,hJ_,.inl h,hK_,ok.frames,hL_,T++W++ms,hM_,(st::rest),hN_,some e,hO_,St->Hp->Prop,hP_,.Name x pos',hQ_,List (Addr×Int),hR_,Nat->Heap->Prop,hS_,It->Hp->Prop,hT_,full.toArray,hV_,X.mg "range"=none,hW_,GV _ z,hX_,I7.unpinned,hY_,2 ^ 64,hZ_,Fw X (compareOp ip) r',h0_,.Compare a [op,ip] [b,c] pos,h1_,(xs.take i).zipIdx.map λq=>fJ!,h2_,r'.length,h3_,{s with toks:=s.toks+1},h4_,W.emptyDict,h5_,Jb f v fs,h6_,Ug sc b ops xs j m o.v w,h7_,True.intro,h8_,m / 12%14,h9_,By (fT (Cu "tuple" k!))]
def z'i:String:=z [ia!,backToKw pos ta!,ib!,f2 ixD k! ai_,ic!,.str "bin",id!,.int ((hs T h).length:Nat),ie!,f1 Fm bm_,if!,o.n / 2==bl!%6,ig!,Oq 0 1,ih!,.Call (.Attribute o m bf) am! [] pos,ii!,Str->Option NameKind,ij!,HR.mp nd,ik!,LB tB!,il!,W.codeIn KF ah qual=true,im!,.ref t,in!,(by simpa using hw),io!,.ref sl,ip!,GP ⟨_,rfl,GP h⟩,iq!,Ct k!,ir!,Ad fY_ (At (Gh (Dg (By t4!)) (wT (w2 eo! (Ma o_ O_) (wl (fC em_))))) (Cg M! O_ tW_) Bm),is!,.str "move",it!,.str "drop",iu!,z.length,iv!,oB rfl,iw!,nG aP,ix!,f2 ixD C! F_,iy!,compareOp .In,iz!,[.ref p],iA!,wl ai_,iB!,f2 ixD az_ F_,iC!,"fresh",iD!,(by rw[GW];omega),iE!,λρ M R=>R true M,iF!,l.most=some n,iG!,ns.map .int,iH!,List.Pairwise.nil,iI!,⟨[u],[]⟩,iJ!,λ_ _ _=>False,iK!,aD bL_,iL!,Eo st,iM!,bG P_ bQ cd! aB n!,iN!,ForInStep.yield r,iO!,Ct K!,iP!,Nb 3 aNil,iQ!,fC (.int 7),iR!,flt b hb,iS!,sS bV,iT!,aD (aN aJ aM bK_ aB q!),iU!,Cg bH_ vV_ O_,iV!,wl aB!,iW!,∀a vs,Fg KF H a vs->Fg KF H' a vs,iX!,ds.drop n,iY!,.str i,iZ!,λb u e=>?_,i0!,Br G H G' H',i1!,∀j∈ix,j∉own,i2!,(∀v G' H',Br G H G' H'->Aj KF G' d v->Q v H'),i3!,f2 g fa fb,i4!,⟨x,rfl,?_⟩,i5!,DA X own es fs,i6!,f1 g fs,i7!,vs++[],i8!,⟨B8,B9,C2,C3,C4,C5,C6,C7,C8,C9,D1,D2,SF,SG,SH,SI,SJ⟩,i9!,sub.seq q]
def z'ii:String:=z [ia_,f2 ixD k! s_,ib_,A.under (.builtin "type.__call__" ⟨.ref C::us,kw⟩),ic_,List td!,id_,(x::xs),ie_,lv sc yy os b a la lw x7 x8 fO_ (some N!) (some N!) x12,if_,[H!,dM!],ig_,Mm (Jd t) 0 eg!,ih_,dU ec,ii_,((p,w)::P.zip vs),ij_,N.length,ik_,wl (fC ic!),il_,bootBuiltins x=some el!,im_,(by simpa using hv),in_,((sIx n 0 lo:Nat):Int),io_,Builtin.Tuple.tupleExact _,ip_,f2 ixD mj_ F_,iq_,aCons T_ aNil,ir_,fC fZ_,is_,Aa mD_ (Aa (wl fX_) (Aa (wl en!) Ac)),it_,(g!:Int),iu_,.str "set",iv_,P!<=sizeLine,iw_,(show false=true from fx),ix_,aC U! aK,iy_,aR aL bD U! aB,iz_,.inr rfl,iA_,.dT σ,iB_,aN aJ aM dr! aB q!,iC_,Ct C!,iD_,Ai 2 bp!,iE_,GM ag,iF_,[M_,"above",mt_],iG_,f2 Ag C! s_,iH_,aD iN,iI_,λv _=>v=.bl true,iJ_,Array DictEntry,iK_,[.non,.non],iL_,aCons aK_ aNil,iM_,aC aB aK,iN_,GO _ hp,iO_,names.map λ(n,k)=>if ng_ then(n,NameKind.cell)else eB_,iP_,aCons F_ (aCons F_ vu_),iQ_,aD uW_,iR_,As T_,iS_,"_law_many",iT_,Dj aj! (Ak ac_) Al,iU_,wl (fC X!),iV_,fm _ (t9 p hp),iW_,bF T.T3 T.V5 n_,iX_,fT T_,iY_,upd H p ch_,iZ_,kJ (kZ T) f_ rfl,i0_,bF T.T4 T.V2 n_,i1_,fb ρ,i2_,.ref wK_,i3_,k.length,i4_,⟨G1,ρ,d,cP!,e,wU_⟩,i5_,aF eD! wY_,i6_,Ec X.K fd ps [],i7_,.fn r,i8_,v.reverse,i9_,Rv rows i p s a8]
def z'j:String:=z [ja!,⟨o,Y,h2⟩,jb!,λa b hm=>?_,jc!,λx hx y hy=>?_,jd!,List Bool,je!,bs.map Value.bool,jf!,Br.refl s2,jg!,starEach (a::[]) X.env=dh!::starEach [] X.env,jh!,(by kernel_rfl),ji!,.row x b,jj!,∀q,Ii V q->a9 q=ad q,jk!,Af KF G ds vs,jl!,some gh_,jm!,starEach (e::[]) X.env=dn!::starEach [] X.env,jn!,(λr M'=>match r with|.rt d=>R d M'|.nx _=>R .non M'),jo!,(hO b).mpr z,jp!,Fg X.K H a vs,jq!,(by simpa using h),jr!,us.toArray.size,js!,∀(us us':j_),Aq vs us->Aq ws us'->∀(j:Nat) u u',us[j]?=some u->us'[j]?=some u'->SeqAt.EqAt A.in1 s u u' jq_,jt!,nR rd re rv ax (h us us' rv ax),ju!,kU ds es hl,jv!,IL gp_ a!,jw!,setT W i jv_,jx!,sgn h n,jy!,[af_,aD_,ym_],jz!,⟨_,dg_,rfl⟩,jA!,IsZip s.heap z TI TO .none,jB!,IsPair s.heap TO p q,jC!,s.heap.IsTupleIter i2 l2 k2,jD!,.ref z,jE!,GM (RP ?_),jF!,α->Prop,jG!,λc o e=>?_,jH!,Iy eM_,jI!,Iw xs ys,jJ!,.int b,jK!,A.deeper (envOfC x aY! s.heap.objs.size af ah),jL!,.str "set",jM!,ops.length,jN!,[.str "bin",.tup [.int 9,.int 9]],jO!,(aO_:Int),jP!,Str.ofString "",jQ!,plc es cZ!,jR!,(·.key),jS!,some jg,jT!,(by simpa using hl),jU!,Ar G G',jV!,aZ u8,jW!,XM M G H M' G' H',jX!,s.cps.toList.zipIdx.map jX_,jY!,λx hx q hq=>?_,jZ!,w2 gm fa fb,j0!,λd M2 v G2 H2 r2 x2 m2 q2=>k d M2 v G2 H2 r2 bh! m2 q2,j1!,.tup eX_,j2!,⟨⟨o,q o z1,z2,z3⟩,z4⟩,j3!,upd H a (dE a a7 Ar!),j4!,zS (A:=A.in1) hu I m sub e r hk λo s' I' ho=>?_,j5!,(oT_).Nodup,j6!,(c1!).map Op.v,j7!,!eqD d d',j8!,λw hw=>lD I r1 rx n1 r2 r n2 (by have:=fZ X.A;omega) w in!,j9!,mup_ne hb]
def z'jj:String:=z [ja_,.type "NoneType",jb_,.Name x p2,jc_,.inr rfl,jd_,if x=n then[]else W.txt x,je_,λx gr hy=>?_,jf_,(by show 3<=1000;decide),jg_,[(Str.ofString "following",D.fn f),(Str.ofString "preceding",D.fn p)],jh_,bnd d ρ,ji_,V.ls x b,jj_,er.grow x,jk_,.fn (ad .ob),jl_,mup_ne h2,jm_,[.Subscript bR_ ix p2],jn_,i∈W.its/\Jr W x/\¬Wn W.rows i x,jo_,⟨j6 f9,?_⟩,jp_,[.int x,.int y,.int z],jq_,eqD n6_ n7!,jr_,w.nm i hi,js_,λj=>eqD n6_ n7!,jt_,ax.length,ju_,kQ ds es hl,jv_,(U++gC!::v),jw_,.ref ad,jx_,some yk!,jy_,f2 ρ=some b,jz_,ZipApart z TI TO i1 i2 l1 l2,jA_,IsPair s.heap TI (.ref i1) (.ref i2),jB_,s.heap.IsTupleIter i1 l1 k1,jC_,(∀c ob,c≠z->c≠TO->c≠i1->c≠i2->s.heap.get? c=some ob->h'.get? c=some ob),jD_,(by rw[hd];simp),jE_,HM _ rfl,jF_,λc hc=>?_,jG_,GU _ hx,jH_,(hO c).mpr z,jI_,cs.map λ_=>.bl true,jJ_,xs.map D.str,jK_,lV l c k,jL_,.int tm,jM_,.lst ops,jN_,ks.length,jO_,Lw P w h es ks,jP_,cs.map λc=>(an!:Str),jQ_,GP eZ_,jR_,.int base,jS_,Lw P w s.heap es.toArray ks,jT_,bI rfl rfl,jU_,b0i (nX rfl (KB _)),jV_,dE a es ep,jW_,Iv KF G fs vs,jX_,sgn h m,jY_,.refl st.or.sub,jZ_,st.grow x1 m1,j0_,⟨G1,ρ,M1,R,jZ_,r1,j0!⟩,j1_,MT X own c ft,j2_,Bz X.K G x v,j3_,dictGet a u>>=_,j4_,[e4!,.int o.n,gR_,o.d],j5_,jM!<64,j6_,upd H a (dE a a7 bU_),j7_,NameG x,j8_,oE I r2 r n2,j9_,(show its.toArray.any dJ!=its.any dJ! by simp)]
def z'k:String:=z [ka!,Sa .str c1! [],kb!,Ef.of Y,kc!,ho.run I st e λd M1 v G1 H1 u s1 r1 x1 m1 q1 I1 rx=>?_,kd!,s.heap.push {cls:=.type "dict",data:=.dict #[]},ke!,HA (IA h.1),kf!,s.root hb,kg!,Ai i f,kh!,hp.map _,ki!,λ_=>true,kj!,MI X own tg iter fi,kk!,Cj N ps.length q,kl!,.lst F!,km!,q.2.1.map c_,kn!,[fb_,BN_],ko!,[fb_,BN_,(Str.ofString "waiting",.fn wa)],kp!,(by rw[hA.ob];simp),kq!,(by rw[hA.wt];simp),kr!,.fn (ca h),ks!,((cr_).length:Nat),kt!,aV (d:=.int 1) rfl,ku!,.int (-1),kv!,IA u9,kw!,Ex S W S1 W1,kx!,(0,a0.size,0),ky!,W++[o],kz!,ca o.h,kA!,Value.int a t,kB!,⟨by rw[GY];unfold big;omega,?_⟩,kC!,(λ_ K hK=>by rw[bM (f:=fVar 0) (d:=o.v) rfl];exact hK),kD!,[q_,c7_,Co!],kE!,(s'.S.length:Nat),kF!,(a,seqObj "list" #[] e1),kG!,ku.toArray.zip cf!,kH!,hk p hp,kI!,aV (d:=.fn p) rfl,kJ!,(s.heap.push bY_).update s.heap.objs.size (Obj.mapSeq (·++cf!)),kK!,(by rw[he];rfl),kL!,∀d∈xs,Wi d,kM!,GO _ hx,kN!,.lst hj!,kO!,.inl i,kP!,.inr x,kQ!,s.W++[o],kR!,⟨_,rfl,r⟩,kS!,rawInt L,kT!,List Key×V,kU!,W.instObj C dx,kV!,Dp P w H h a o,kW!,M la=some kV_,kX!,JB he hd Y ?_,kY!,e=x\/H e=some ho_,kZ!,Xq n h e cls L av,k0!,[aR_,bB!,c7_,y3,y4],k1!,aW (hm b _ q λz=>z),k2!,o1.trans o',k3!,CB h H,k4!,X.env.scope.kind,k5!,X.N.length,k6!,ev yy la lw xs al! x5 x6 x7 x8 x9 x10 x11,k7!,H b=none,k8!,HY cw! I.ok.above,k9!,Xp X.K C]
def z'kk:String:=z [ka_,.lst e4_,kb_,fo ρ=some z_,kc_,⟨t1,t2,?_⟩,kd_,[(d,x)],ke_,Dv own Z H,kf_,(by show 4<100;decide),kg_,⟨G',ρ,M',R,sr.grow x m,r,k1,k2⟩,kh_,[.Subscript o i p2],ki_,Iw pa_ pb!,kj_,Dh C m M d,kk_,GP (GM (RJ ho hd ?_)),kl_,[E_,ak_,gZ_,g0!,ph_,ph_,none,none,none,none],km_,.int o.n,kn_,.fn ta,ko_,kl.length,kp_,(by rw[ht];simp),kq_,(by rw[hA.cl h hh];simp),kr_,Array Keyed,ks_,aV (iR o),kt_,some dO_,ku_,mirror_perm _ _ _ _,kv_,hs S k,kw_,x≠o,kx_,setPending ac ((B9_).push kx!),ky_,Ow a ta wa kl ca,kz_,GO _ hz,kA_,λz hz=>?_,kB_,λd hd=>?_,kC_,Ow a ta wa s'.kl s'.ca,kD_,(by rw[GW,JI];omega),kE_,(s.S.length:Nat),kF_,Fs S dn,kG_,(ha!).zip ds,kH_,hk q bg,kI_,.builtin "sorted",kJ_,seqObj "list" us.toArray 0,kK_,kf2 d,kL_,seqObj "list" (hg!).toArray 0,kM_,f1 ρ=some b,kN_,.ListComp d7 vN_ scope ak,kO_,(Sum.inl a:Key),kP_,(Sum.inr a:Key),kQ_,(nomatch e),kR_,(by simpa using Y),kS_,λx hx=>hm x aP!,kT_,List Key×Addr×Value,kU_,fs.map c_,kV_,.lst (T.map Op.v),kW_,noteFrame V! env,kX_,BQ (H x),kY_,∃u,h'.get? e=some u,kZ_,⟨o,ho⟩,k0_,upd H x o,k1_,hx b z,k2_,(T.length:Nat),k3_,Kp av (frA X.stack) s.heap h',k4_,rangeD 9,k5_,p.2.data,k6_,I.ok.stk,k7_,AllBare g',k8_,ht_=none,k9_,I.freeC x c e]
def z'l:String:=z [la!,λb o e hx=>?_,lb!,I.base.free b o e n hx,lc!,aV (f:=fVar 5) (d:=.fn p) rfl,ld!,some X!,le!,λ_ _ _ _ n=>n,lf!,λ_ _ _ e=>e,lg!,λm hm=>?_,lh!,L1.at ?_,li!,swapsWith he (some (.Name xn xp)) ap.line X.env=pure false,lj!,(by simpa using hp),lk!,⟨u',r',?_⟩,ll!,.inl hk,lm!,⟨bq,H1,v5 J,q⟩,ln!,starEach es X.env,lo!,SP X h1 D,lp!,⟨x,kM!,h⟩,lq!,⟨v,H,I,r,h⟩,lr!,.bool b,ls!,[.Name en p2,hG_],lt!,truthy v,lu!,Hf hs_ P w KF mg base N qual scope fa cd A outer s H E,lv!,toString i,lw!,hs T x.h,lx!,⟨ae,H',I.unwish,q⟩,ly!,.Expr e pos,lz!,Hp->Prop,lA!,ev yy la lw xs al! x5 x6 x7 x8 fC! x10 fC_,lB!,.bool false,lC!,Int->Int->Int,lD!,(hR!).map Op.nm,lE!,I.pin p hp,lF!,Wp X.prog X.w X.K M0 G0 F0 own fs,lG!,(by simpa using b1),lH!,{s with heap:=h'},lI!,⟨rfl,I.turned (t':=s.toks) (λb o hb e=>eb b o hb e) f0 f1 f3 f4 f5⟩,lJ!,λb o hb e=>kk b o fE! e,lK!,wl nA_,lL!,s.heap.push {cls:=.type "range",data:=.fields #[.int lo t,.int hi u,.int 1 v]},lM!,ha pos h1 s Z H _ I h,lN!,PI X tg iter wi,lO!,(by rw[<-z];simp),lP!,(by rw[e]at z;cases z),lQ!,.BinOp a op b pos,lR!,s.heap.IsList l items,lS!,⟨h₁,g,d,tk,os⟩,lT!,IA hne,lU!,rI (λ_ j=>0<j) λi j=>.int (i%j),lV!,i ^ j.toNat,lW!,.type "enumerate",lX!,.lst ss_,lY!,Pz λi j=>.bl lX_,lZ!,decide (j<i),l0!,Pz λi j=>.bl l0_,l1!,.obj t.B5 (hF yy ta wa a2!),l2!,(by cases z),l3!,its.toArray.isEmpty,l4!,kl.map (lt S),l5!,.int (i:Nat),l6!,1+sL_,l7!,[fe_,.int l6!],l8!,λK hK=>?_,l9!,JL.mpr λ_ _=>rfl]
def z'll:String:=z [la_,λx c e=>?_,lb_,knF os kn,lc_,aV (f:=fVar 4) (d:=o.v) rfl,ld_,ev yy la lw xs al! ap_ ld! fw_ x8 x9 x10 x11,le_,λ_ _ e=>e,lf_,⟨#[],by rw[e];simp⟩,lg_,I.hok b u e,lh_,Ze X xC en xn C0 L ie ix,li_,Of X.N.length ix v,lj_,IE (IA hj),lk_,ae.set ie jl!,ll_,λM=>M p=some hy!,lm_,Inv X h1 Z H' s',ln_,PW X e t,lo_,eval a X.env,lp_,("__debug__":Str),lq_,PE X e rd_,lr_,(by simpa using hl),ls_,h h1 s Z H _ I hw,lt_,.BoolOp .And [a] pos,lu_,.BoolOp op [a] pos,lv_,.IfExp c a b pos,lw_,Ab->Prop,lx_,swapsWith e none pos.line X.env=pure false,ly_,.Return hN_ pos,lz_,assignEach es X.env,lA_,setItem ov iv v,lB_,some x,lC_,[H!,bk!],lD_,ρ.set i ap_,lE_,(∀b∈fp,Eu X h1 H b),lF_,Int×Tok,lH_,λb hb=>(fD_).1,lI_,some rP_,lJ_,I1.kept (t':=s1.toks) λb o e=>GQ _ e,lK_,hi - lo,lL_,[b2!,d6!],lM_,cW lM! ?_,lN_,.For tg iter body [] pos,lO_,V->Hp->VK->Prop,lP_,Fw X (binaryOp op) r,lQ_,s.heap.IsListIter it l i,lR_,f da! (.int j u),lS_,rI We λi j=>.int (i*j),lT_,rI Zj λi j=>.int (i / j),lU_,kl.flatMap (hs S),lV_,rI Zi λi j=>.int lV!,lW_,some dO_,lX_,decide (i<j),lY_,compareOp .LtE,lZ_,Pz λi j=>.bl lZ!,l0_,decide (j<=i),l1_,ho h1 s2 Z H2 x y v u _ I2 r1 r2 q2,l2_,σ.isEmpty,l3_,⟨H,I,q⟩,l4_,λK hK=>hK,l5_,Sy s.heap x dx C mA,l6_,W.plainGet_of hg,l7_,W.isFn KF ah_=true,l8_,Hb X ek_ r,l9_,[gJ!,cX_,.non]]
def z'm:String:=z [ma!,[own1 yy],mb!,vs++ws,mc!,["thing","limit"],md!,rangeD n4,me!,.List es pos,mf!,e.frames,mg!,.ins C dx [],mh!,gV I hg hm ?_ au,mi!,lv bw! yy os b a la lw eS_ x8 fO_ x10 x11 x12,mj!,fC fR!,mk!,List.replicate n (D.bl true),ml!,(srt T).map Op.v,mm!,yy=0\/yy=3,mn!,(some o.v::r),mo!,[E_,bk!,a6_,fN!,q_,some (.fn vb),none,none,none,none,none,none,none],mp!,w2 Do mo_ o_,mq!,[Y_,av_,b9!],mr!,An t.B6 "numbers" i!,ms!,⟨_,nz,rfl⟩,mt!,"parent",mu!,v+(n:Int),mv!,[Y_,b9!,mt!],mw!,aCons aj! aNil,mx!,(i:Int)+(m:Int)*1,my!,(items.toList.drop (sIx items.size 0 lo)).take tS_,mz!,[Y_,b9!,"place","number"],mA!,.Slice lo hi none p2,mB!,Ai 2 Hh,mC!,fD (qK (qA t6! (kS (bG vN vP fZ! aB n!)))) eo_ cP,mD!,aC aw! aK,mE!,gL T.R6 rfl,mF!,.str "write",mG!,.Subscript a b pos,mH!,[mG_,av_,"deed"],mI!,[Y_,"ours"],mJ!,[Y_,do_],mK!,Gf ep_,mL!,Ap 1 (Dy t) bI_,mM!,Bg bp!,mN!,aN aJ aM aw! aB q!,mO!,An t.B5 "ours" i!,mP!,Fi t.Unlike E (Nk (gN 4 g0)),mQ!,"message",mR!,wl (f2 ixD T_ F_),mS!,λx1 x2=>x1++x2,mT!,n<=sizeLine,mU!,⟨e,?_⟩,mV!,ks.map kV,mW!,"numbers",mX!,backTo ak uT_,mY!,"_law_op",mZ!,d.params.defaults=[],m0!,⟨bE_,[]⟩,m1!,λr s'=>r=.ok (.ret ew!)/\OldK am.heap s'.heap/\s'.os=am.os/\AllBare s'.gens,m2!,aI (bW u0!),m3!,Cs.cons (j:=0) Cs.nil,m4!,aCons aX! tb!,m5!,Ah k callerA,m6!,f2 Ag s_ (f2 modD k! C!),m7!,["_law_rows",bM_],m8!,aD bd_,m9!,Option Value]
def z'mm:String:=z [ma_,show Jb f v ((k,x)::r)=(if k=f then(k,v)::r else(k,x)::Jb f v r)from rfl,mb_,ws.length,mc_,getMethod ov m pl,md_,bf.atName,me_,Os P w KF mg base A outer s H,mf_,(os.filter p).map Op.v,mg_,upd tk! x mg!,mh_,["parts","checks"],mi_,Mk X.K C f,mj_,f2 ixD k! ac_,mk_,∀M',R (.rt u_) M',ml_,wl tv!,mm_,wl (fC dm_),mn_,Hf CX P w KF mg base N qual scope f ah A outer s H E,mo_,An t.B6 "parents" i!,mp_,bootBuiltins x=some ek_,mq_,Hb X el! r,mr_,⟨_,ho,rfl⟩,ms_,PN _ _,mt_,"sibling",mu_,Az t.B6 "has_item" 2 (Bx t) i! bG_,mv_,(λd=>match d with|.int j=>(lo j).v|d=>d),mw_,Ai 8 (wl (f2 Ag C! (Au mw!))),mx_,Aa bH_ Ac,my_,bI!<=sizeLine,mz_,f1 Ck bm_,mA_,HT.sIx xs.length xs.length hi - HT.sIx xs.length 0 lo,mB_,λb ob q=>GQ _ q,mC_,λz=>?_,mD_,wl t6_,mE_,V->List V->Hp->VK->Prop,mF_,fC mF!,mG_,"outline",mH_,wT (w2 (Kz true) O_ M!),mI_,sliceBounds lo hi none n,mJ_,w2 Do ep_ M!,mK_,An t.B5 "outline" i!,mL_,upd H l aX_,mM_,[M_,do_],mN_,Aa i! tH_,mO_,iH (n:=10) rfl,mP_,aC bK_ aK,mQ_,bf.endLine==ak.line,mR_,Cs.cons (j:=2) Cs.nil,mS_,acc++its,mT_,iH (n:=9) rfl,mU_,aN aJ aM et! aB q!,mV_,eJ aL!,mW_,bA (i:=2) nd rfl d! ae!,mX_,lS (gK rfl T.Q8 aB),mY_,aD dt!,mZ_,lS (eJ bK_),m0_,.call ew_ m0!,m1_,λf vs=>PySem.call f vs,m2_,.bool true,m3_,f2 eqD' ip_ ir_,m4_,Au m4!,m5_,aD aw!,m6_,"_law_letters",m7_,f1 g_Lmix uZ!,m8_,aCons (f1 g_Lmix (aCons k! (aCons iG_ aNil))) aNil,m9_,fC (.int 12)]
def z'n:String:=z [na!,W.fnOf x qual iL! be! aY! .none kV bn pm an ah ct,nb!,Option.none,nc!,aN aJ aM aL_ aB q!,nd!,some y.nm,ne!,.int 5,nf!,λm hm=>hm,ng!,λ_ _ _ q=>q,nh!,iRng K!,ni!,Inv X h1 Z H2 s2,nj!,∀b∈fp,Eu X h1 H2 b,nk!,bF T.T2 T.V9 n_,nl!,Mr NL.length ix Z,nm!,Bb (Hi i! O_),nn!,iRng vG!,no!,(I!,Rn us n),np!,f2 ltD cc_ s_,nq!,Cd 1 [0] (Ci o_) G! vW! (wl ia_),nr!,At (Dg (fT aj!)) (Bg (wl (Pc ai_))) Bm,ns!,aG as!,nt!,bF T.T3 T.V3 n_,nu!,fC (.int 11),nv!,aF bq_ aP,nw!,f2 Ed aX! C!,nx!,f2 eqD' (f2 Av ia_ ai_) (f2 modD iG_ wt!),ny!,f2 Ed f9! cK_,nz!,hw Z G H Q ρ d er e k,nA!,jC hN hv hd bz,nB!,k G' H' s',nC!,⟨G,ρ,x,er,e1,λG1 H1 s1=>?_⟩,nD!,⟨G,ρ,.bl x,er,jK e1,wU!⟩,nG!,sI h.ok,nH!,.obj t.B7 nG_,nI!,(by rw[GW,GW];omega),nJ!,bS sub qa,nK!,Option Int,nL!,λx=>?_,nM!,bootBuiltins "isinstance"=some eL_,nN!,Ef KF H p ys\/Fg KF H p ys,nO!,bs.all id,nP!,(im x).mp hx,nQ!,if x=a then l else W.txt x,nR!,(by show 1<=1000;decide),nS!,Sw->Addr,nT!,ad ji!,nU!,¬V.dm b x->kget k x=none,nV!,ad dB!,nW!,GD X.K g bnd,nX!,x.sub.free hp,nY!,swapsWith e (some cR!) pos.line X.env=pure false,nZ!,ρ.set i nv_,n0!,mup_ne p1,n1!,starEach [] X.env,n2!,Eh ds.length j,n3!,W.num i,n4!,⟨l,?_⟩,n5!,A.deeper (envOfC qual aY! s.heap.objs.size af ah),n6!,Wy KF ps.length g,n7!,es.getD j .non,n8!,us'.toArray.size,n9!,Ef X.K H a vs]
def z'nn:String:=z [na_,(qQ!).Nodup,nb_,aR cM cN (aR gD gE cJ! aB) aB,nc_,aR aL bD nc! aB,nd_,cU aL_ cb_ dP,ne_,aW (ne b _ e),nf_,aW (by simpa using hc),ng_,k==f8_&&env.scope.kind==.function&&env.kindOf n==some .cell,nh_,Xr X scope cl,ni_,bA (i:=2) nd rfl d! gF,nj_,bA (i:=4) nd rfl d! (aD (cU bK_ dP cb_)),nk_,a5f zH,nl_,wT (w2 eo! (wl cc_) (w2 Gk cG_ (w1 Gi (Aa (Cd 1 [4] (Ci i!) G! vE! i!) Ac)))),nm_,Ai 2 (wl (f2 Ag K! s_)),nn_,aI (bW r_),no_,f2 Bc az_ cj!,np_,f2 eqD' aX! C!,nq_,Ms (wl aj!) (Ms (w2 Vn (Hm bH_ vV_ O_) O_) (wl (Bi vW_ vX!))),nr_,Bb (Hi o_ O_),ns_,L2.Key×V,nt_,cE (dW T) f_ n_ bM!,nu_,V.ref p,nv_,some cg_,nw_,λi d q _=>?_,nx_,Uh nl ix ρ,ny_,At (Dg (He wy_ (fT ny!))) (Bg iU_) Bm,nz_,if b∈Hv own Z then none else G' b,nA_,fVar i,nB_,λ_ _ _ _ _=>b4g,nC_,fT fa ρ,nF_,[(.non,.non)],nG_,[("following",.fn f),("preceding",.fn p)],nH_,Hk t M r f p xs,nI_,(by rw[HN];omega),nJ_,eS bK_,nK_,z▸HH (f:=c_) hq,nL_,X.mg "isinstance"=none,nM_,Gl X "isinstance",nN_,sub.seq q,nO_,bs[i]?,nP_,(nP!).resolve_right q,nQ_,("texts",.fn a3),nR_,List.range n,nS_,ad .wri,nT_,V.dm b x->kget k x=some (.fn nT!),nU_,ad dA_,nV_,λv H2 hy=>?_,nW_,hL r l,nX_,Y.ok G0 F0,nY_,.If c b1 b2 pos,nZ_,.List es p2,n0_,eval bR_ X.env,n1_,[eQ_,some x,aA_],n2_,h.noOb oM2,n3_,(n3!).set p.toNat fJ_,n4_,λq hq y hy q' bg e=>?_,n5_,Hf Ng P w KF mg base N qual aY! af ah A outer s H E,n6_,ds.getD j .non,n7_,hI.row (x:=i) (b:=false) hi,n8_,us'.toArray,n9_,[.int x,.int y,.int (z+(k:Nat))]]
def z'o:String:=z [oa!,ad==sysModules,ob!,.inr al_,oc!,Sum.inr z,od!,[af_,aD_],oe!,.int (k0:Nat),of!,[aa!,jx_,aA_,cW!,some tx,some dq,some oe!,some f0!,some bu_],og!,(.tup jy!,.str an!,true),oh!,[a].length+(er_).length+f2!<30,oi!,.obj C fs,oj!,⟨ho,rfl,k⟩,ok!,V.nw x b,ol!,HA λz=>hx yQ!,om!,h5.objs.size,on!,V.nn x yW!,oo!,BW s.heap l1 l2,op!,GQ _ jE_,oq!,(λv y=>by cases y),or!,aW (ne c _ e),os!,λc hc=>?_,ot!,.int a,ou!,Hf Ng P w KF mg base N x aY! af ah A outer s H E,ov!,So n es,ow!,(lV l c k).binds b,ox!,ns.map D.int,oy!,Rb rows,oz!,.str "drop",oA!,.tup [oz!,a],oB!,[oA_,a,b,eU_],oC!,rows.map c_,oD!,Ik P w s.heap x u,oE!,some (.lst db),oF!,letters.length,oG!,⟨cs.toArray⟩,oH!,LX ho hd (GM (b4f hu q2 hk (GM (LX ho hd ?_)))),oI!,[E_,ak_,ak!,a2_,bw_,bU!,co!,jS!,e0_,oH_,none,none],oJ!,GM (qY hu hk λtk=>GM zR!),oK!,[E_,ak_,ak!,a2_,bw_,bU!,co!,jS!,e0_,oH_,some sg,none],oL!,Bq σ d x,oM!,hH.trans Y,oN!,(by rw[e];simp),oO!,hw Z G H Q ρ M R st e k,oP!,st.mr.ext x,oQ!,⟨a',b',c',e',GU _ hm⟩,oR!,h2 b hb,oS!,HC (by simp only[HJ];omega),oT!,λx hx=>h x aP!,oU!,GM (NN hT K_),oV!,.bl (oU_).isSome,oW!,compareOp .NotIn,oX!,λx=>?_,oY!,λ_=>0,oZ!,.dct q.2.1 q.2.2,o0!,Jv M2 d,o1!,kget q.2.1 y,o2!,[(root,y),(Db,z)],o3!,.dct [] 0,o4!,⟨[],bK,.nil,KZ⟩,o5!,(by show 2<=1000;decide),o6!,MS X own own1 st q1,o7!,sr.st.mr,o8!,Kx M3 d y v,o9!,⟨rfl,hg _ hK⟩]
def z'oo:String:=z [oa_,b7.lookup y,ob_,Sum.inr z,oc_,cs.zipIdx k0,od_,(cT!).map c_,oe_,A'.handled,of_,[aa!,jx_,aA_,cW!,some tx,some dq,some oe!,some f0!,sx],og_,backTo ak (starEach [a] X.env),oh_,hO.mono a!,oi_,Aa gE! (Aa (wl f2) Ac),oj_,Uj ad V,ok_,HC rfl,ol_,mup_ne hn,om_,⟨_,rfl,?_⟩,on_,"StopIteration",oo_,.type "zip",op_,z▸hp,oq_,⟨c1,rfl⟩,or_,aW (ne d _ q),os_,wo W.rows i,ot_,Fh KF mg x st ps,ou_,.int c,ov_,JQ _ a!,ow_,W.mg_of X G a,ox_,.str "move",oy_,.tup [ox_,a,b,c],oz_,Tf rows,oA_,.str "write",oB_,.str "undo",oC_,⟨rfl,rfl,rfl⟩,oD_,.lst its,oE_,db.length,oF_,cs.map Og,oG_,.str letters,oH_,some bv_,oI_,some (Oe b9),oJ_,aa_<=sizeLine,oK_,[.tup [ax_,.int (1+m0%5)]],oL_,λ_ h=>h,oM_,h2.mono e,oN_,D->Mh->Prop,oO_,.ext x,oP_,λ_=>g,oQ_,MT X own a ft,oR_,q2 ρ M R,oS_,⟨o,h⟩,oT_,ops.map Op.key,oU_,Mu o.d,oV_,λx hx=>hd x aP!,oW_,∀o∈ops,DG o.d,oX_,kget wd o.nm,oY_,(p,σ,ep),oZ_,Jv M1 d,o0_,q.2.length,o1_,(bh!).trans x3 m2,o2_,⟨_,dg_,oC_,rfl⟩,o3_,I.laid (t':=s.toks) uD_ u! ⟨⟨D0,IQ.mpr (IA (IH I.big)),IF _⟩,let⟨o,h,_⟩:=D0;oS_,Aq_⟩,o4_,Value×Value,o5_,.inr (s.noF z),o6_,Y.ok M0 G0 F0,o7_,sr.grow x m,o8_,Pu f1 ρ M a,o9_,[none,none]]
def z'p:String:=z [pa!,List (Addr×D),pb!,cs.map X_,pc!,Addr×D->Prop,pd!,λds M1 vs G1 H1 r1 x1 m1 q1=>?_,pe!,hs os o.h,pf!,h.ch _,pg!,Lz s.heap d es ep,ph!,(λi v=>∃e,es[i]?=some e/\v=e.key),pi!,b1a em ed nd z rfl rfl rfl rfl rfl rfl rfl hb,pj!,(by simpa using rn),pk!,(q.2:Nat),pl!,jr b hb,pm!,D.int.inj z,pn!,.int BR_,po!,some (.inl hJ_),pp!,[B_,o.v],pq!,(BR_:Int),pr!,some k,ps!,λh hh=>(by cases hh),pt!,⟨ho,rfl⟩,pu!,∀h,hs S h=hs Sb h,pv!,S1.length,pw!,Sb.length,px!,o.n=nh S o.h+1,py!,.inr hx,pz!,(∀o∈os,o∈U),pA!,⟨hl,?_⟩,pB!,cZ hb hq,pC!,if h=o.h then q else ca h,pD!,GZ.mp y,pE!,aV (f:=dP!) rfl,pF!,L.map X_,pG!,λx=>eqD x o.v,pH!,.int S_,pI!,h1++[dR!],pJ!,(s'.S.length:Nat),pK!,ku.length,pL!,λd q=>Kl d=some q,pM!,.int pJ_,pN!,∀H':Hp,H' a=none->Eu X h1 H' a,pO!,Oh S yy o dn,pP!,Ll S yy os,pQ!,Paired c8! ds us,pR!,Ba t M0 yy a ta wa Wt out S kl ca,pS!,.dct dS! ep,pT!,[q_,ag_,ah!,H!,gU!,y5],pU!,[q_,ag_,ah!,H!,gU!,gX_],pV!,QN ?_ bv!,pW!,ms.length,pX!,.lst bZ!,pY!,ds.all λd=>(Kl d).isSome,pZ!,Gp kf2 ds,p0!,[some x0,c9_],p1!,∃d∈xs,Ot d,p2!,f2 ρ=some c,p3!,hm o ho,p4!,λK hK=>?_,p5!,decide (((fi!:Nat):Int)<8),p6!,a.old x o l m e,p7!,mixKind prog w,p8!,n.get? e=none,p9!,.cons rc rs]
def z'pp:String:=z [pa_,cs.map λc=>.fn c.1,pb_,Gm P w KF own M0 G0 F0 M1 G1 H1 Z ρ,pc_,Wx P w KF ps.length g,pd_,(by rw[<-aH q1];exact r1.1),pe_,.obj C [],pf_,ρ[i]?=some nv_,pg_,rawInt dM_,ph_,some (.lst [ax_,ax_,ax_]),pi_,(by rw[HZ];rfl),pj_,h.ch k,pk_,Str.ofString "outline",pl_,λb hb ho=>?_,pm_,hA.mem h,pn_,m1.ext xj,po_,Keyed->Int,pp_,hA.nob hM1,pq_,∀k ac,SB kd a0 ac->1<=k->k<=n->Up r w_ k->Q pr! ac,pr_,bM (f:=fC .non) (d:=.non) rfl,ps_,Wt.length,pt_,eG.mp (IZ z),pu_,(∀h,hs S1 h=hs S2 h),pv_,S2.length,pw_,cs_ / 2,px_,.inl hx,py_,(by rw[<-hn];exact c),pz_,fa ρ=some y,pA_,λh hh=>?_,pB_,Int×Int,pC_,GS.mp hh,pD_,List g9!,pE_,Ow a ta wa s.kl s.ca,pF_,(pF!).map kf,pG_,s.S.length,pH_,some pH!,pI_,Ah k X.A.in1.in1,pJ_,pJ! - (pG_:Nat),pK_,Zo s.S,pL_,(s1.S.length:Nat),pM_,(by show some (D.int (0+_))=_;rw[QJ]),pN_,.ret .none,pO_,seqObj "list" #[] e1,pP_,dn.map Op.nm,pQ_,Gp fj! ds,pR_,(by rw[JZ];omega),pS_,List (Keyed×D),pT_,Gv g q.2,pU_,b3q ho,pV_,(bY!).push bY_,pW_,[B_,hf!],pX_,acc.toList,pY_,ds.map kf2,pZ_,kf2 q.2,p0_,GT.mp hx,p1_,[B_,dF_],p2_,rH F S λah A outer s H E hr=>hb hr S.nd,p3_,[.lst iG!],p4_,[q_,H!,some X!],p5_,Kp av fr Y h2,p6_,(λq=>nomatch q),p7_,⟨u,kR_,h2⟩,p8_,∀h' T,g_<=T->XF n h' e T cls kS!->Kp [e] fp! s.heap h'->h'.FunFrames base a7_->Q () {s with heap:=h'},p9_,(s2.S.length:Nat)]
def z'q:String:=z [qa!,pJ! - (aE_:Nat),qb!,[UW,.ref L,bH!,rawInt L,bH!]++(if pl.isEmpty then List.replicate 6 bZ_ else pl),qc!,Bs (Hc iC_) am_ (CV t),qd!,Obj.mapFields qb_,qe!,[q_,some pX!,some N_,none],qf!,fs.lookup f,qg!,fVar i ρ=some fr!,qh!,(match M la with|some (.lst xs)=>_|_=>False),qi!,XF n s.heap e T cls fl,qj!,Obj.mapFields (·.setIfInBounds 3 bZ_),qk!,⟨o.slots,by rw[b9 b (λz=>zg dV_)];exact eb⟩,ql!,b9 b (λz=>by subst z;rw[ht]at eb;cases eb;exact uw _ ky),qm!,b9 e (IA sh),qn!,∀b u,b≠e->h.get? b=some u->h'.get? b=some u,qo!,upd H x o',qp!,.tbl (ps++qm),qq!,(show T.map Op.v++bW!=(cv_).map Op.v by rw[HZ];rfl),qs!,mup_ne (IA h.ne),qt!,((cv_).length:Nat),qu!,List.range bA_,qv!,⟨hb b h,x.ge b h⟩,qw!,X.env.kindOf x=some .cell\/X.env.kindOf x=some .free,qx!,(show k+(qy_ - k2_)+(fv! - qy_)=k+qt_ by omega),qy!,.type "Exception",qz!,[aR_,bB!,some N_,none,none],qA!,ev yy la lw xs be_ x5 x6 x7 x8 x9 x10 x11,qB!,Option Value,qC!,(∀x∈kn,¬hb_),qD!,[(false,eval ex X.env)],qE!,I.cne x c e,qF!,λ_ Z H=>te Z H λ_ H1=>R H_ H1,qG!,.dct (kvO lb_) bc,qH!,c9 M λ_ _=>rfl,qI!,λi x v e1 e2 e3=>?_,qJ!,.bl (b||Sz yy fx! kn o),qK!,⟨_,a7,bc,hL,r'⟩,qL!,hs.2 b (ne b o e),qM!,(qL!).trans e1,qN!,λb u e=>?_,qO!,∀b u,s.heap.get? b=some u->h'.get? b=some u,qP!,λx hx=>ho x aP!,qQ!,kn.map Op.nm,qR!,storeName X.env x u,qS!,[.Assign [.Name xn xp] he ap],qT!,λc w' hc q=>(hs.2 c ?_).trans q,qU!,⟨fv_,fv_,I.base.free,la!,I.base.tups,I.base.frzs,I.base.tbls⟩,qV!,(by intro q;cases q),qW!,(by simpa using I.len),qX!,aV (f:=fC cD_) (d:=.int 2) rfl,qY!,Pd X a hE!,qZ!,z.sameBut hs (cne y c e),q0!,⟨(hs.2 p.1 ne).trans e,n,ne,nf,d⟩,q1!,(λ⟨y,hy,_⟩=>by cases hy),q2!,λz hz=>hm z kz_,q3!,λ⟨z,hz,q⟩=>Y ⟨z,GO _ hz,q⟩,q4!,Bool->Hp->Prop,q5!,Hf hs_ P w KF mg base N x aY! af ah A outer s H E,q6!,Oh T yy o dn,q7!,λx hx n=>?_,q8!,ta Z H λx H1=>tb Z H1 λy H2=>R x y H2,q9!,∀v u s2 x y H2,Inv X h1 Z H2 s2->Be x v->Be y u->R x y H2->wpAny e! X.A (f v u) Q X.xe s2]
def z'qq:String:=z [qa_,(∀o∈ms,o∈U),qb_,(·.setIfInBounds 1 (Value.ref hl!)),qc_,(Y.push ob).update e qd!,qd_,.tup (p.1.map kV),qe_,(by simp[hsz]),qf_,(∀f,Lu qf! (mA f)),qg_,∀b xs,H b=some aQ_->H' b=some aQ_,qh_,(λd=>match d with|.tup (.int h::_)=>h==k|_=>false),qi_,HC (show(Value.ref T != Value.none)=true by simp),qj_,W.methodObj ah_ (.ref y),qk_,MM (LM ky _),ql_,[aR_,bB!,k,y3,H!],qm_,fo.elim Value.none λf=>rawInt f,qn_,Obj.mapFields (·.setIfInBounds 3 qm_),qo_,T∈av\/g_<=T,qp_,Un fs ex H H1 h Y,qr_,mup_ne h.ne,qs_,.nx [aR_,bB!,some fu_,y3,fw],qt_,(fv! - k2_:Int),qu_,h.get? b=some o,qv_,X.env.globals,qw_,.type "ValueError",qx_,.type "BaseException",qy_,(T1.length:Nat),qz_,aV (d:=.int hr!) pM_,qA_,I.ok.noex b o e,qB_,ev yy la lw xs x4 x5 x6 x7 x8 x9 x10 x11,qC_,Value->Hp->Prop,qD_,starEach [ex] X.env=qD!,qE_,.Raise (some (.Call qF_ [ex] [] ak)) none pos,qF_,.Name x np,qG_,ev yy la lw xs x4 ap_ x6 x7 x8 x9 x10 x11,qH_,hR M x4 ep hp λ_ _=>rfl,qI_,ev yy la lw xs al! ap_ (some aI!) fw_ x8 x9 x10 x11,qJ_,(λ_ z=>nomatch z),qK_,HB λz=>z c,qL_,λa=>eqD' a fc!,qM_,(by simp[z]),qO_,QD (k _ _ he) (GP (hc▸q)),qP_,List.replicate n none,qQ_,∀a pn oe c,ds_∈pn->EC oe aF_->PE hD! he λZ H Q=>Z[ie]?=some gI!/\∃v,hv c=some v/\Q v H,qR_,some (.Name xC cp),qS_,I.hok b ob e,qT_,Yd X bP! (xT X h1 D (.ExceptHandler qR_ (some en) qS! hp)),qU_,λj y v' e1 e2 e3=>?_,qV_,λy c e=>?_,qW_,hs.2 b (IH k8!),qX_,(qW_).trans e1,qY_,y.tm<=x.tm,qZ_,(.ref x::do!),q0_,ev yy la lw xs x4 ap_ x6 x7 e7_ x9 x10 x11,q1_,hs.2 b (IH (HY cw! (I.ok.cab x c xi hc))),q2_,(q1_).trans e1,q3_,.Try body [.ExceptHandler qR_ (some en) qS! hp] [] [] tp,q4_,List.find?_some f,q5_,(show(q6!).bind wu_=some bi from e),q6_,backTo pos ln!,q7_,XR X.prog X.w X.K M0 G0 F0 E,q8_,.inl ⟨o,GR,h⟩,q9_,V->V->Hp->Prop]
def z'r:String:=z [ra!,eval b X.env,rb!,Tt X.prog X.w X.K M0 G0 F0 own (Fj ps.length g E fs),rc!,("__classdict__":Str),rd!,⟨c,M',G',h5,h6,(sr.x.trans x1 o7!).trans h7 m1,h8⟩,re!,Addr->Option D,rf!,Addr->Option V,rg!,X.mg x=some u,rh!,(by rw[I.ok.glob];exact I.mod.glob.keeps I.bk),ri!,λa ha b hb z=>?_,rj!,(show u=Value.ref a from r1),rk!,I.pin _ hX!,rl!,X.N[ie]?=some en,rm!,op==CmpOp.In,rn!,(en==lp_)=false,ro!,starEach ls! X.env=(false,eval (.Name en p2) X.env)::starEach [hG_] X.env,rp!,starEach [hG_] X.env=(false,eval (.Name xC p3) X.env)::starEach [] X.env,rq!,.Name "isinstance" p1,rr!,cW (ha h1 s Z H Q I h) λc s1 e=>?_,rs!,(a::b::rest),rt!,⟨H1,I1,q1⟩,ru!,Ll T yy b0! []=some dn,rv!,cW (hc h1 s Z H _ I h) λd s1 ⟨H1,I1,q1⟩=>?_,rw!,toString j,rx!,(by rw[q1];omega),ry!,(by simpa using hs),rz!,FJ X own n es g,rA!,(by rw[RQ];omega),rB!,perm.mem_iff.mpr yd,rC!,some (.builtin "BaseException.__getattribute__"),rD!,Bs gd_ ge! Zq,rE!,.type "type",rF!,(λ_ s'=>∃ae H',Inv X h1 ae H' s'/\Q ae H'),rG!,λy hy=>hy,rH!,.builtin "object.__class__",rI!,.int (nh T o.h),rJ!,Value.ref D,rK!,eval i X.env,rL!,cW (ho h1 s Z H _ I h) ?_,rM!,nh T o.h<o.n,rN!,[.Name x pos'],rO!,⟨z.1,z.2.1,m_⟩,rP!,l.lookup c,rQ!,(λd=>match d with|.tup (.int h::_)=>h==yy|_=>false),rR!,Lx X body tb,rT!,Bs eD_ ad! CI,rU!,(¬∃x∈knF ms J!,∃y∈knF ms J!,Uq x y),rV!,(by rw[z];exact hb),rW!,⟨G,ρ,M,R,sr.st,e,k⟩,rX!,CL X h1 Z tg R,rY!,(∀b o,b≠I->b≠S->h.get? b=some o->h'.get? b=some o),rZ!,.builtin "max.loop" ⟨[.ref I,bH!,.ref S],kw⟩,r0!,LJ hS rfl ?_,r1!,(toString "max"++toString ".loop":String),r2!,Ep N ps scope,r3!,OC jx λ_=>#[.int x t,.int x t],r4!,⟨o,(IG _ _ zm).trans e1,e2⟩,r5!,(∀h,nh T h<=nh S1 h),r6!,starEach [a] X.env=[dh!],r7!,.Call r6_ [a] [] pos,r8!,.builtin "max",r9!,λy hy=>?_]
def z'rr:String:=z [ra_,λv am=>wpAny e! X.A ra! (λu ao=>wpAny e! X.A (f v u) Q X.xe ao) X.xe am,rb_,a6s (E':=λcls _ H'=>XR X.prog X.w X.K M0 G0 F0 E cls H') hX λ_ _ z=>z,rc_,Vx X.prog X.w X.K X.mg X.base k x ps g,rd_,Tt X.prog X.w X.K M0 G0 F0 own f,re_,.Constant N! j pos,rf_,.Constant .none j pos,rg_,(false||Sz yy hd kn o),rh_,bootBuiltins x=some u,ri_,eval cz! X.env,rj_,(show w'=Value.ref C1 from r2),rk_,[bb!,.ref C1],rl_,X.mg xC=some (.ref C1),rm_,op==CmpOp.NotIn,rn_,(en==rc!)=false,ro_,⟨H1,I1,q⟩,rp_,starEach [hG_] X.env,rq_,jC (X:=de_) hN ll! v6 v7,rr_,.BoolOp .Or [a] pos,rs_,cW b1_ λc s1 ⟨H1,I1,q1⟩=>?_,rt_,h h1 s Z H Q I hw,ru_,λo ho=>(dT!).elim (J.op o) (hm o),rv_,PyData.tuple lL_,rw_,Ef X.K H a xs,rx_,I.kIn a o hk,ry_,Fg X.K H a xs,rz_,(by rw[RQ];omega),rA_,⟨Z,H,I,h⟩,rB_,(v1::v2::es),rC_,.Return none pos,rD_,.type "object",rE_,Fin->Shared->Prop,rF_,St->Hp->Prop,rG_,GM (L0.at (GM lh!)),rH_,ev yy la lw xs al! x5 x6 x7 x8 fC! x10 x11,rI_,bM (f:=dP!) (d:=bB_) rfl,rJ_,.Subscript o i pos,rK_,(fu!:Nat) - qt!,rL_,o' b b1 b2,rM_,aV (f:=fVar 2) (d:=bj_) rfl,rN_,((aF!:Nat):Int)<8,rO_,λz=>absurd z c,rP_,.lst ((hs T yy).map λo=>D.int o.n),rQ_,.While c body [] pos,rR_,[fe_,bB_,bj_,dF_],rS_,ev yy la lw xs none none none none none none none none,rT_,(∃x∈knF ms J!,∃y∈knF ms J!,Uq x y),rU_,b2w a3h a3y,rV_,letOwnedTupleGo tg b4_ u,rW_,pyIter b4_,rX_,["enumerate","zip","dict_itemiterator","dict_reverseitemiterator","odict_iterator","itertools.zip_longest","itertools.pairwise"],rY_,(by simpa using hu),rZ_,λb o hb e=>(sb.2 b hb).trans e,r0_,(by simpa using uz),r1_,λz=>hb op_,r2_,hl h1 s Z H _ I h,r3_,⟨o,(IG _ _ uz).trans e1,e2⟩,r4_,(((lK_).toNat:Nat):Int),r5_,(by simp[Vo];omega),r6_,.Name "range" p,r7_,(Str.ofString "default",v),r8_,(∀b o,s.heap.get? b=some o->h'.get? b=some o),r9_,starEach aJ! X.env=[dh!,hW!]]
def z's:String:=z [sa!,dv.map λv=>r7_,sb!,.Call r6_ aJ! [] pos,sc!,(by rw[e];rfl),sd!,.int (Vo 0 none xs),se!,λb hb=>(dh_).1,sf!,step x H5 y5,sg!,I7.pin d6_ sf_,sh!,λdn z=>lP!,si!,Int->Int->V,sj!,c6r ha hb I h λv u s2 x y H2 I2 rx ry q=>ho h1 s2 Z H2 x y v u Q I2 rx ry q,sk!,λbi z q=>(by rw[e]at z;cases z;rw[o]at q;cases q),sl!,.int ba_ s.toks,sm!,JB he rfl (x:=.ref it) rfl ?_,sn!,⟨.int ba_,H,aT_,I_,q⟩,so!,intBits_le_64 Y h2,sp!,binaryOp .Mult,sq!,λ_ _=>rfl,sr!,compareOp .NotEq,ss!,⟨by simp only[GY];unfold big;omega,?_⟩,st!,⟨_,hx,rfl⟩,su!,(by rw[hp.length_eq];exact hS),sv!,λx y H Q=>y=.non/\Q (.bl (!decide (x=.non))) H,sw!,Zs X h1 H s.heap e it i,sx!,Uy r r' ta tb tc,sy!,hc h1 s3 Z H3 _ I3 q3,sz!,F.args_enumerate_next_1 _,sA!,∀b∈bi!,Eu X h1 H b,sB!,⟨H,aT_,q⟩,sC!,l.map λh=>D.int (f h),sD!,(xs.take S!).zipIdx.map λq=>fJ!,sE!,.str (i++j),sF!,mup M c cC!,sG!,(λxs H Q=>∃i,xs=[b2!]/\Q (.int h2!) H),sH!,.int (x.cps.getD 0 0:Nat),sI!,.builtin "len",sJ!,⟨.int g!,H,aT_,⟨_,by simp only[GW];rw[ay]⟩,q⟩,sK!,upd H c (dE c a7 S!),sL!,W.hasDictIn KF C=true,sM!,dZ aP_ hA.ob hF1,sN!,e items[j]=true,sO!,some (.builtin "object.__setattr__"),sP!,dk!<=sizeLine,sQ!,(d9_).flatten.zipIdx.map λq=>fJ!,sR!,W.makesIn KF C=true,sS!,.type "dict",sT!,aV (d:=ax!) rfl,sU!,Op.mk o.h o.n o.tm Tq,sV!,Op.mk o.h o.n sU_ o.d,sW!,if m / 168%2=0 then .non else .tup [e4!,ax_,gR_,o.d],sX!,mup M1 p cC!,sY!,.Name "enumerate" p2,sZ!,.lst (List.replicate n.toNat vs).flatten,s0!,.int (b+1+j),s1!,.Pass ⟨0,0,0,0⟩,s2!,[aW!,ec_,b6_,"_law_lone",h9!,cD!,ed!,aW_,"_law_rows",ed_,"_law_due_here",dl!,fK_],s3!,fS (ds:=[fL!]) rfl (by show some (D.int ((F!).length:Nat))=_;rw[GY]),s4!,λb u q=>GQ _ q,s5!,fC (.int 10),s6!,.type "object",s7!,fT (f2 eqD' aK_ (fC fD!)),s8!,ifW (w:=w) rfl,s9!,[E_,dk_,a6_,c9_,y4,y5,y6,y7]]
def z'ss:String:=z [sa_,starEach [b] X.env=[hW!],sb_,λo ho=>?_,sc_,λb=>b=la\/b=lw,sd_,(∃o,OpF o/\Xm o/\d=o.v),se_,T.obj _ _ ny,sf_,GV _ (GV _ (iC hb e)),sg_,h.A.keep fr,sh_,Int->Int->Prop,si_,same λb hb=>(f2 b C8_).trans he_,sj_,(∀b o,b≠e->b≠it->s.heap.get? b=some o->h'.get? b=some o),sk_,items[i]?=some x,sl_,field V! 2>>=_,sm_,ixD x.v N_,sn_,Int->Int->Bool,so_,Pz λi j=>.int (i - j),sp_,(l.filter λx=>p x||q x),sq_,some (.lst (acc.map Op.v)),sr_,[q_,sq_,kt_],ss_,(fH_).map Op.v,st_,([]++kl.flatMap (hs S)).map Op.v,su_,λx y H Q=>y=.non/\Q (.bl (decide (x=.non))) H,sv_,λx y H Q=>r x y H Q\/r' x y H Q,sw_,(by rw[show(((i+1:Nat):Nat):Int)=(i:Int)+1 by omega];exact a),sx_,⟨_,he,rfl⟩,sy_,mup M1 a l1!,sz_,⟨_,_,_,he⟩,sA_,⟨_,he,ge_⟩,sB_,⟨H,aT_,by rw[tK r];exact q⟩,sC_,(show False from e),sD_,.int (Yb l),sE_,Af X.K G xs vs,sF_,.builtin "abs",sG_,.builtin "ord",sH_,(λxs H Q=>∃x,xs=[.str x]/\cC_=1/\Q sH! H),sI_,.int (i:Nat),sJ_,mup M c (.dct sD! S!),sK_,W.plainGet KF C name=true,sL_,((hs S yy).length:Nat),sM_,Value->Bool,sN_,aV (d:=.tup l7!) rfl,sO_,λA R s=>s.heap.get? l=some {cls:=.type "list",dict:=none,data:=.seq items n,slots:=#[]}/\(∀y,y∈items->SeqAt.EqAt A.in1 s y x (e y))/\R (.ok pN_) {s with heap:=s.heap.update l (Obj.mapSeq λxs=>xs.eraseIdxIfInBounds j)},sP_,⟨hl,he,h⟩,sQ_,⟨by rw[GY,pm.length_eq];unfold big;omega,?_⟩,sR_,W.findIn KF H_ "__init__"=some d9!,sS_,mup M p cC!,sT_,f2 eqD' aK_ (fC cm!),sU_,o.tm+1+m / 168%3,sV_,(show∃t,u=Value.int i t from r),sW_,(show∃t,u=Value.str x t from r),sX_,Op.mk o.h (o.n+3) (o.tm+40) o.d,sY_,[.Call sY! [a] [] u5],sZ_,.ins C dx (Jb f y fs),s0_,(by rw[e];exact h7_),s1_,if g=f then some u else mA g,s2_,λ_=>none,s3_,Cn (Cu "bool" k!),s4_,Cu "int" k!,s5_,fC (.int 60),s6_,eval e env,s7_,.Attribute e f pos,s8_,backTo pos (starEach args X.env),s9_,.Call (.Attribute e m bf) args [] pos]
def z't:String:=z [ta!,keywordEach [] X.env,tb!,aCons ia_ aNil,tc!,f1 Ch (aCons (Dj k! Al bn!) aNil),td!,Str×Value,te!,(by simp[dep]),tf!,cW (h pos h1 s Z H _ I hq) λus s1 ⟨xs,H1,I1,r,z,q⟩=>⟨by rw[<-r.length];exact z,?_⟩,tg!,is.map λi=>D.int (i:Nat),th!,f3 ρ=some d,ti!,lv sc yy os b a la lw eS_ x8 x9 x10 x11 x12,tj!,[dn_,.fn t.B0,.fn t.B1],tk!,upd H1 dx ho_,tl!,lv bw! yy os b a la lw eS_ x8 x9 x10 x11 x12,tm!,starEach am! X.env,tn!,Cg mo_ o_ O_,to!,cH tn_ rfl fd!,tp!,⟨I2.kIn,?_⟩,tq!,(Value.ref Y!::ef!),tr!,.Call (.Name x p) [] [] pos,ts!,(∀v,(x,v)∉binds),tt!,Qr (Hl bG! bG! Pf),tu!,.int (a9!:Nat),tv!,f2 Am C! cj!,tw!,λ_ K hK=>?_,tx!,(show b∈ty! from z),ty!,([]:List Addr),tz!,λb z=>absurd z (tz b),tA!,(by rw[hh];omega),tB!,(by simpa using hi),tC!,Ai 2 (Qq ej_ o_),tD!,W.fnOf name qual params body scope dV kV bn pm an ah ct,tE!,e0.bs b o e,tF!,.lst ((os.filter λo=>! c8_).map Op.v),tG!,Az t.B6 "has" 2 fP_ i! ej!,tH!,.lst ((own1 yy::os.filter λo=>! c8_).map Op.v),tI!,mup M2 la tE_,tJ!,Cg dp! o_ fV!,tK!,Tb (Aa bp! Ac) (wl ee_),tL!,if v<0 then(mu!).toNat else min v.toNat n,tM!,if v<0 then max mu! 0 else min v (n:Int),tN!,((sIx n n hi:Nat):Int),tO!,At (Mt (wT (Az t.B6 "can_move" 3 (Di t) i! tN_))) Mp Bm,tP!,IsPart vl lo,tQ!,[some (.int (j:Nat)),a6_],tR!,Bb (Az t.B7 "put_behind" 3 (Bw t) (w2 Do fV_ M!) (Aa em! mx_)),tS!,Cg tR_ em! (wl aK_),tT!,"operation_name",tU!,f2 Ag fX_ T_,tV!,tU_==0&&(1:Int)==1&&tS_==bI!,tW!,⟨m_,m_⟩,tX!,At (wT (Az t.B7 "holds" 2 (Dz t) (w2 Do fV_ o_) mx_)) (Cg (An t.B6 "hidden" i!) bH_ tW_) Bm,tY!,V->Option Int->Option Int->Hp->VK->Prop,tZ!,dU (iF rfl),t0!,iI a7q rfl T.Q3 rfl T.Q2 bO b7d y!,t1!,s3.heap.objs.size,t2!,f2 ixD en! F_,t3!,xs.drop t2_,t4!,fT (f1 Ao iq_),t5!,(r.drop t2_).take mA_,t6!,gQ (eS (iI lH rfl T.Q3 rfl T.R3 bO oC y!)),t7!,aO (iA T) f_ rfl mD! ar_,t8!,getItem o i,t9!,eY P_ bQ y! bX n!]
def z'tt:String:=z [ta_,aCons dm! aNil,tb_,[E_,dk_,a6_,none,none,none,none,none],tc_,lv sc yy os b a la lw x7 x8 x9 x10 x11 lW_,td_,f2 Bc k! cj!,te_,.Tuple es x1 pos,tf_,lv sc yy os b a la lw x7 x8 x9 x10 x11 x12,tg_,I1.laid (t':=s1.toks) (λb u e=>GQ _ e) u! ?_,th_,Bs wz_ (Bd 12) (BH t),ti_,λb z=>absurd z d_,tj_,λv H2=>v=.non/\Q bA! H2,tk_,call ah_ us,tl_,cW lM! λus s1 ⟨vs,H1,I1,r,q⟩=>⟨I1.kIn,?_⟩,tm_,backTo pos tm!,tn_,cH (fS fa_ em) rfl c4_,to_,⟨false,rfl⟩,tp_,I.hok.fresh (JW _),tq_,Aa o_ tH_,tr_,List.replicate n true,ts_,(by simpa using h2),tt_,(by simpa using Y),tu_,aV (f:=fVar 5) (d:=bB_) rfl,tv_,cellsFrom Y! scope.names [],tw_,Hf CX P w KF mg base N qual scope f cd A outer s H E,tx_,wT (Az t.B7 "holds" 2 (Dz t) i! ej!),ty_,Ai 3 (Zu tx_ M! bG!),tz_,(by show(1:Int)<=1;decide),tA_,x.above y c (LO h),tB_,[E_,bk!,a6_,fN!,q_,aR_,none,none,none,none,none,none,none],tC_,lv bw! yy os b a la lw none none none none none none,tD_,∀vs H Q E,sp vs H Q E->aU_=O!,tE_,.lst [(fU_).v],tF_,cW lM! λus s1 ⟨vs,H1,I1,r1,q1⟩=>hc h1 s1 Z H1 vs us Q I1 r1 q1,tG_,iD I hg hm hv ?_ hn au,tH_,Aa bo_ Ac,tI_,Bb (Az t.B7 "put_behind" 3 (Bw t) (w2 Do dp! O_) tq_),tJ_,Cg fV_ o_ fV!,tK_,Cg mr! o_ tK!,tL_,.lst (vc.map Op.v),tM_,(s0::s1::some kl!::s3::rs),tN_,Aa o_ ej!,tO_,s.heap.IsSliceOf sl vl vu .none,tP_,IsPart vu hi,tQ_,(rangeD 11).filter λ_=>true,tR_,An t.B6 "written" i!,tS_,sIx items.size items.size hi - sIx items.size 0 lo,tT_,Str.ofString "__getitem__",tU_,((sIx items.size 0 lo:Nat):Int),tV_,Ai 5 (wl (f2 Ag (Dj K! Al bn!) (Au (aCons az_ aNil)))),tW_,wl (fC u_),tX_,Option Int->Hp->Prop,tY_,.str "redo",tZ_,Hc (Ct mz_),t0_,b6o (iI a1z rfl T.Q3 rfl T.P9 bO a8f y!),t1_,At (Dg (fT (f1 Ao ca!))) (Cg o_ (wl (f2 ixD en! s_)) (wl t2!)) Bm,t2_,HT.sIx xs.length 0 lo,t3_,aO (kD T) f_ rfl ca_ ar_,t4_,IL (qC xs lo hi) hz,t5_,IsTup.new _ _,t6_,f2 ixD K! s_,t7_,aO (hV T) f_ rfl (aC (cU y! dP cb_) aK) ar_,t8_,aO (hV T) f_ rfl ca_ ar_,t9_,call ek_ (v::us)]
def z'u:String:=z [ua!,eY xH xN y! dC n!,ub!,(by rw[hj];simpa using ew),uc!,λr s'=>r=w/\EP X h1 Z Q r s',ud!,⟨rfl,ag⟩,ue!,(·.setIfInBounds j u),uf!,At mH_ (Bb (Ap 3 (La t) ue_)) Bm,ug!,e1.trans e2.symm,uh!,upd H p (.lst (xs.set j v)),ui!,(by rw[hk];exact⟨_,I',q⟩),uj!,Bg (wl (f1 Ck eg!)),uk!,if a then 1 else 0,ul!,At (wT (w2 (λ_=>Bc) mK_ bG!)) (Ez t.B5 "outline" i! (Ap 1 (Hy t) (Aa mL! Ac))) Bm,um!,wl (f2 ixD C! s_),un!,(show its.toArray.any f1_=its.any f1_ by simp),uo!,At (wT (w2 eo! (Az t.B5 "have" 2 eq! i! bG_) bp!)) mM! Bm,up!,λh' c' kp e=>ag its r' hz h' c' kp e,uq!,Bg (w2 Do (w2 Do (w2 Do ep_ o_) uo_) iA!),ur!,dI (aC aw! mD!),us!,(λ_ e=>nomatch e),ut!,wT (w2 eo! (wl iB!) mO!),uu!,⟨⟨o,e,ex.1⟩,λa e2=>?_⟩,uv!,Dg (fT uw!),uw!,f2 Ed bp_ T_,ux!,backTo ak ln!,uy!,At ux_ (Fi t.NoTime E (Nk (gN 3 g0))) Bm,uz!,Cg M! mR! O_,uA!,List.replicate k its,uB!,Array Value->Array Value,uC!,fT (f1 Lr uB_),uD!,aO f2_ f_ rfl xm! as!,uE!,aO f2_ f_ rfl (aC y! (aC iy_ aK)) as!,uF!,Aa o_ bI_,uG!,Ai 2 (Cd 1 [0] (Ci dq_) G! uF_ i!),uH!,.lst (xs++zs),uI!,Bb (Nj dq_ (wl bJ_)),uJ!,⟨e,e2,?_⟩,uK!,r.append r2,uL!,2 ^ 63 - 1,uM!,At (wT (Ap 2 (Fn t) cI_)) (Ad (Bb (Ap 2 (Gz t) cI_)) (Bg uL_)) Bm,uN!,λ_=>ltD,uO!,List (κ×V),uP!,At uO_ (Bb (Hi dq_ o_)) Bm,uQ!,Bb (Fj 2 (Cw t) E cI_),uR!,aR cM cN uP_ aB,uS!,upd H a ob,uT!,Cd 1 [0] mK! G! iE! (Ap 2 (Dw t) uF!),uU!,starEach [e,f] X.env,uV!,ns.map WData.int,uW!,λ_ _ _ _ _=>bC (i:=0) (show([mY!,bN!]:List Str).Nodup by decide+kernel) rfl d!,uX!,λ_ _ _ _ _=>pT (fV (bG P_ bQ aw! uW_ n!)),uY!,pre_splitW vn,uZ!,aCons k! eg!,u0!,aD (zN aB),u1!,aI (eA w! bq_ u0_ U_),u2!,cF (sc:=Ae Pv) rfl k_,u3!,λ_ _ _ _ _=>pT (fV (bG P_ bQ aw! U! n!)),u4!,Au (aCons bJ_ (aCons t6_ iq_)),u5!,aN aJ aM bL_ aB q!,u6!,f2 ixD K! u5_,u7!,Bf 5 (f1 Ib ca!),u8!,aF r_ f7_,u9!,World->Heap->Prop]
def z'uu:String:=z [ua_,⟨z,H,I,ax,q⟩,ub_,slot_list_getitem.lookup,uc_,(by rw[GW]<;>omega),ud_,Ai 1 (Fx t.B6 1 (Gj t) Ac),ue_,Aa o_ (Aa O_ (Aa (wl (f2 ixD T_ ac_)) Ac)),uf_,IG _ _ f1!,ug_,gL T.R7 rfl,uh_,Ez t.B5 "outline" i! bG!,uj_,aI (fP T.T2 T.W5 n_ cG!),uk_,if b then 1 else 0,ul_,aU (bL (aN aJ aM y! (aR cM cN U! fZ!) q!)),um_,Az t.B5 "have" 2 eq! i! (Aa (wl ix!) Ac),un_,λw hw=>sV rx fx r fs w in!,uo_,wl (Pc s_),up_,(by simp only[GW]<;>omega),uq_,λ_ _ _ _ _=>bC (i:=0) (show(bK!:List Str).Nodup by decide+kernel) rfl d!,ur_,λ_ _ _ _ _=>ur!,us_,Gl X "enumerate",ut_,At (wT (Ap 2 (Ev t) mN_)) (Ai 5 (w2 Do (w2 Do ep_ (wl iB!)) (wl (f2 Dq cc_ s_)))) (At ut! mP! (Ai 5 (Fv M! O_ bo_))),uu_,⟨o,e,ex.2.1⟩,uv_,At uv! mP! Bm,uw_,Ai 4 (w2 Do (w2 Do o_ bo_) iA!),ux_,wT (w2 (λ_=>Ih) O_ (Hm M! mR! (Ap 2 (Dw t) (Aa i! (Aa mR! Ac))))),uy_,List.replicate k xs,uz_,aR jZ kB aB y!,uA_,f1 (Bh t) bm_,uB_,aCons (Ff 1 [] iC_ G! ay_ uA_) aNil,uC_,Obj.mapSeq f,uD_,λ_ _ q=>GQ _ q,uE_,.cons ru .nil,uF_,wT (Ap 2 (Fn t) uF!),uG_,f2 Hq (f1 Bp ca!) F_,uH_,aR cM cN cd_ aB,uI_,ir.toArray.size,uJ_,Bb (Ap 2 (Gz t) (Aa i! (Aa (wl bJ_) Ac))),uK_,aC (aO f3_ f_ rfl (aC cJ! f4!) as!) (aC cd! aK),uL_,w2 Gk cG_ (Ap 1 (Cz t) bI_),uM_,Ms (Ap 2 (Ev t) cI_) (w2 fT_ o_ dq_),uN_,wl (fC (.int 8)),uO_,Gh (Dg (By (fT K!))) (wT (w2 uN! (w1 Gi (Aa dq_ Ac)) uN_)),uP_,aR gD gE cd_ aB,uQ_,Ap 2 (Kd t) mN_,uR_,Heap.SameBut a s.heap h',uS_,Mt (wT (Az t.B6 "has" 2 fP_ M! bG_)),uT_,starEach [e] X.env,uU_,w2 Gk M! (Uv (Aa (Ap 1 (Hj t) bI_) bG_)),uV_,Cs.cons (j:=4) Cs.nil,uW_,aN aJ aM U! aB q!,uX_,Ap 2 (Qk t) (Aa i! (Aa (wl (Au (aCons ir_ (aCons C! ca!)))) Ac)),uY_,As (f2 ixD k! (f2 modD C! dl_)),uZ_,true==true,u0_,aD (cU cd_ dP cb_),u1_,IntsAre vs ns,u2_,λ_ _ _ _ _=>bC (i:=0) (show([bN!,ec_]:List Str).Nodup by decide+kernel) rfl d!,u3_,fT (f2 eqD' t2! mF_),u4_,Li (iRng (f1 Bp (aCons (f2 ixD en! ac_) aNil))) am_ (Nc 1 u4!),u5_,f2 modD (f2 Av C! (f2 Ag s_ (f2 Cm ac_ k!))) (fC (.int 41)),u6_,λb z=>?_,u7_,(by rw[GY];exact hl),u8_,(Str->Option Value)->Heap->Prop,u9_,Bf 6 (f1 Cp (aCons (f2 Ag (Dj bp_ (Ak s_) Al) (Dj bp_ Al (Ak s_))) m8_))]
def z'v:String:=z [va!,Params->W.Frag,vb!,(∀(s:Shared) (u:Value),BindsTo s fd iI! [(x,u)]),vc!,Bf 7 (f1 Cp (aCons (f2 Ag bp_ (fC (.lst iK_))) (aCons (f1 g_Lmix (aCons k! (aCons (f2 Ag C! ai_) aNil))) aNil))),vd!,Bf 8 (fC (.lst [fZ_,fZ_,fZ_,is!,is!,mF!,mF!,fR!,iu_,em_,tY_,it!])),ve!,Wb KF x qual st f fd,vf!,pL (i:=3) nd rfl d! aK,vg!,KF.lookup f=some ⟨oc,od,.func na!,iq⟩,vh!,Dr (fT (f2 eqD' aB! (fC is!))) (As (Au (aCons aB! (aCons aj! (aCons (f1 Cp (aCons bp_ (aCons (f1 g_Lmix (aCons k! (aCons (f2 Ag C! ac_) aNil))) aNil))) iL_))))) Bj,vi!,.inl (.inl (e _ _ h)),vj!,.inl (.inr ⟨o,e _ _ h⟩),vk!,⟨o.slots,e⟩,vl!,f2 Av az_ m9_,vm!,Str×NameKind,vn!,tR (aU (bL bK_)),vo!,cG cB eZ rfl T.Q4 dJ ix_,vp!,["check","part"],vq!,(by simpa using hk),vr!,(if(k==f8_)=true then _ else _)=_,vs!,λp hp=>hn p iN_,vt!,T.W6 _ rfl rfl rfl rfl,vu!,As (Au (aCons aB! (aCons (f1 Cp (aCons f9! m8_)) aNil))),vv!,f2 Ag C! (f2 Cm iQ! aj!),vw!,X.N[j]?=some x,vx!,Bf 8 (f2 modD aK_ ac_),vy!,aF bO_ aP,vz!,∀b∈fp,b<I!,vA!,Bf 9 (Rq (f1 Im (aCons k! (aCons (f2 Ag vv! s_) (aCons T_ (aCons eA! aNil)))))),vB!,Nc 3 (Au (aCons (f2 ixD (fC (.lst [N_,ne!,(.int 15)])) aK!) (aCons (On 4 aK!) (aCons (On 5 aK!) vA_)))),vC!,aI (bW ae!),vD!,Ci (w1 Ro bG_),vE!,Dg (fT vD_),vF!,ForInStep.yield ok,vG!,f2 Ag s_ vF_,vH!,f2 modD bp_ (f1 Bp ca!),vI!,f2 Av bp_ m9_,vJ!,Bf 7 (f2 modD vI! vI_),vK!,fC (.tup [(.tup [it!,ic!])]),vL!,f2 ixD aj! ai_,vM!,f2 Ag (Dj aj! Al bn!) (Au (aCons (f2 Ag (f2 Ag vL! s_) (f2 modD vL_ ac_)) aNil)),vN!,f2 ixD aj! F_,vO!,aF r_ dv_,vP!,Eb (aCons cj! (aCons (f2 Ag (Au (aCons vN! vu_)) (Dj aj! bn! Al)) aNil)),vQ!,Dr (fT (f2 eqD' aK_ ai_)) (Bf 6 (f2 ixD vP! vP_)) Bj,vR!,([]:List td!),vS!,Au (aCons vN! (aCons (f2 Ag (f2 ixD aj! s_) ac_) (aCons (f2 Ag vL! (fC (.int 40))) aNil))),vT!,λ_ _=>False,vU!,At (Dg (He (fT no_) (fT np!))) (Bg uo_) Bm,vV!,Ci (Qs o_ M!),vW!,Dg (fT np_),vX!,f2 Hq cc_ (f1 Bp iL_),vY!,f2 ixD cK_ F_,vZ!,f2 ixD cK_ s_,v0!,X.env.kindOf y.1=some .cell\/X.env.kindOf y.1=some .free,v1!,∀cl C ao be fp,PE bQ! d7 te,v3!,cW (al h1 s Z H _ I h) λv s1 Y=>cW Y λvg s2 h2=>?_,v4!,At v2_ (Bg (wl (Pc ac_))) Bm,v5!,aR aL bD U! (aR jZ kB aB aL_),v6!,⟨IH (HY hb hC),IH (HY hb hD)⟩,v7!,λb o hb e=>(fh.2 b hb).trans e,v8!,zP (i:=5) b_ bL_ q!,v9!,.inr (IL I2.sz hC)]
def z'vv:String:=z [va_,∀(w:World) (h:Heap),YP w h->(br!).In h,vb_,fX (vM w!) lQ U_ Z! rfl,vc_,Dr (fT (Cu "str" aK_)) (Bf 7 cj!) Bj,vd_,Bf 9 (f2 ixD aK! (f2 modD az_ m9_)),ve_,∀(kV bn pm:Value) (an:ez!) (ah ct:Value) (us:j_),W_=O!->bindArgs na! cF!=pure cE_,vf_,Dr (fT (f2 eqD' aB! ir_)) (As (Au (aCons aB! (aCons (f1 Cp (aCons bp_ m8_)) iL_)))) Bj,vg_,cG cB eZ rfl T.Q4 dJ es_,vh_,cU aL_ dP cb_,vi_,Dr (fT (f2 eqD' aB! (fC it!))) (As (Au (aCons aB! mw!))) Bj,vj_,Bf 10 (f1 Cp (aCons (f1 Ju ca!) (aCons (f1 g_Lmix (aCons k! (aCons (f2 Ag C! ee_) aNil))) aNil))),vk_,Dr (fT (f2 eqD' aB! mF_)) (As (Au (aCons aB! (aCons aj! (aCons cK_ (aCons (f1 Ln (aCons (f1 g_Lmix (aCons k! (aCons (f2 Ag C! eA!) aNil))) iq_)) aNil)))))) Bj,vl_,aW (ne c _ q),vm_,Dr (fAnd (fT (f2 eqD' aB! mj!)) (fT (f2 Am cK_ cj!))) (As (Au (aCons aB! (aCons aj! (aCons cK_ (aCons (f2 Ag s_ (f2 modD vl! (f2 Dq dm! (f2 ixD cK_ ai_)))) aNil)))))) Bj,vn_,ForInStep.yield ((name,a)::r),vo_,ForInStep (List eA_),vp_,(show(vp!:List Str).Nodup by decide+kernel),vq_,((n,c)::acc),vr_,Dr (fT (f2 (Sr false) aB! (fC (.tup [fR!,iu_])))) (As (Au (aCons (fC iu_) (aCons aj! (aCons (f2 modD vl! ee_) (aCons (f2 Dq (f2 modD (f2 Av az_ (fC (.int 48))) (fC (.int 2000))) (fC (.int 1000))) aNil)))))) Bj,vs_,Bf 11 (f2 Ag (Ff 1 [] iO! G! ay_ m4_) (Eb (aCons (Au (aCons F_ (aCons (f2 Ag s_ (f2 modD az_ eA!)) aNil))) aNil))),vt_,mD cells r _ x h,vu_,aCons F_ aNil,vv_,cE (fO T) f_ n_ (aF iQ_ aP),vw_,Bf 7 (f1 g_Lmix (aCons k! (aCons vv! aNil))),vx_,Sl 4 aK! (f2 Ag (On 4 aK!) s_),vy_,Sl 5 aK! (f2 Ag (f2 Ag (On 5 aK!) s_) (f2 modD (f2 Av aK_ ac_) ac_)),vz_,aF n_ vy!,vA_,aCons aB! aNil,vB_,eV (kH hX T.U3 hr.hd rfl T.T9 (yB (a5f (c0j (i:=4) hr rfl d! b_ nk_)))),vC_,Hc (iRng (fC ex_)),vD_,f2 eqD' aX! ix!,vE_,Bb (Nj o_ O_),vF_,f2 modD m7_ ee_,vG_,Bf 5 (f1 g_Lmix (aCons k! (aCons (f2 Ag iG_ az_) aNil))),vH_,Bf 6 (f2 ixD K! vH!),vI_,fC (.int 14),vJ_,Dj aj! Al (Ak ac_),vK_,Dr (fT (f2 eqD' aK_ F_)) (Bf 6 (f2 Ag vJ_ vK!)) Bj,vL_,f2 Av bp_ (fC (.int 168)),vM_,Dr (fT (f2 eqD' aK_ s_)) (Bf 6 (f2 Ag vM! iT_)) Bj,vN_,[⟨tg,iter,df,0⟩],vO_,qW (i:=2) (NL:=cA_) (NF:=bd!) (ix:=[0]) nd rfl d! rfl b_ k_ (cF (sc:=Ae Fa) rfl k_) m3! b_ rfl (fQ eC_) (λ_ _ _ _ _=>bC (i:=0) (show([bF_,M_]:List Str).Nodup by decide+kernel) rfl d!) aw_ (λ_ _ _ _ _=>pT (gM (bR (lR T) f_ rfl vO!))) ev_,vP_,f2 modD vL_ ai_,vQ_,([]:List Value),vR_,(λv z=>by cases z),vS_,Dr (fT (f2 eqD' aK_ ac_)) (Bf 6 (f2 Ag vS! iT_)) Bj,vT_,bP!++[no!],vU_,I8.pin d6_ sf_,vV_,wl (Dj az_ Al bn!),vW_,f2 eqD' iB! k!,vX_,f2 ixD aK! F_,vY_,f2 ixD aK! s_,vZ_,Mr nl ix Z,v0_,∀cl C ao be fp,Nf bQ! df tt,v1_,Xw NL.length ix wi g tt te,v2_,Gh (Dg (fT (f2 eqD' vX_ vY!))) (Gh (Dg (fT (f2 ltD vY_ vZ!))) (wT (w2 (λ_=>Kc) (w2 Do (w2 Do bH_ em!) iA!) (w2 Do (w2 Do bH_ (wl cK_)) iA!)))),v3_,aC aB (aC aB iM_),v4_,λh' fh=>?_,v5_,Ai 11 (w1 Gi (Aa (Cd 1 [4] (Ci o_) G! vE! i!) Ac)),v6_,f2 eqD' cc_ (f2 Ag f9! s_),v7_,zP (i:=4) b_ bL_ q!,v8_,Ai 9 (wl (f2 Ag aB! s_)),v9_,fm c (q8 x c h)]
def z'w:String:=z [wa!,Ai 9 (w2 Gk iV! (Ap 2 Ke tN_)),wb!,IL I2.sz hD,wc!,λx c h=>(v9_).2,wd!,∀a σ,Rd H a dj!->Rd H' a dj!,we!,Af.map ht hl hd xs vs r,wf!,λ_ _ q=>e.seq q,wg!,Ai 1 (wl (f2 ixD (fC (.lst [N_,b7!])) (f2 modD (f1 g_Lmix (aCons k! (aCons (fC (.int 59)) aNil))) ai_))),wh!,aD (eY qP qQ U! dC n!),wi!,Ai 2 (wl (f1 Jt (aCons k! (aCons F_ (aCons (f2 Ag s_ (f2 modD (f1 g_Lmix (aCons k! (aCons s5_ aNil))) s5!)) aNil))))),wj!,Ai 3 (wl (f2 eqD' (f2 modD (f1 g_Lmix (aCons k! (aCons (fC (.int 58)) aNil))) ac_) F_)),wk!,aCons eA! (aCons (f2 Ag k! s_) (aCons (f2 Ag (f2 Cm ai_ k!) ai_) (aCons (f2 ixD (f2 ixD C! (f2 modD k! (f1 Bp eg!))) ac_) aNil))),wl!,r.mono (gW h),wm!,f2 eqD' (f2 modD (f1 g_Lmix (aCons k! (aCons (fC (.int 57)) aNil))) ai_) F_,wn!,Bb (Ap 3 (Tl t) (Aa O_ (Aa mm_ (Aa bG! Ac)))),wo!,aCons C! (aCons s_ (aCons s_ (aCons (fC (.tup [fZ_,dm_,.non])) aNil))),wp!,⟨v,Y,h2.mono x.g⟩,wq!,f1 g_Lmix (aCons k! (aCons (fC (.int 61)) aNil)),wr!,aCons k! (aCons (f2 Ag nu! (f2 Cm eA! aK_)) ca!),ws!,Z[i]?=some ci!,wt!,fC (.int 6),wu!,f2 eqD' aX! eA!,wv!,Cd 1 [7] (Hc iO!) G! (Dg (fAnd (fT wu!) (fT nx!))) i!,ww!,At (Dg (fAnd iX_ (fAnd (fT ws_) (fT wt_)))) (Ai 9 wv!) Bm,wx!,Ai 11 (Ap 2 (Om t) (Aa O_ (Aa (wl (f1 Tj vA_)) Ac))),wy!,bF T.T3 T.V6 n_,wz!,f ρ=some ds,wA!,Yk X.K own f,wB!,∀Z G H Q ρ d,OR X.K own G H Z ρ->ft ρ=some d->(∀G' H',Br G H G' H'->Q d H')->t Z H Q,wC!,Ta (Aa bp! Ac) (wl dm!),wD!,Ai 8 (Ap 2 (Ql t) (Aa O_ (Aa wC! Ac))),wE!,w2 eo! (wl (f1 Bp wD_)) (w1 Gi mx_),wF!,Bg (Km wE! (w1 (λ_=>Lr) (Aa wE_ Ac))),wG!,[Y_,tT!,b9!,"behind","text"],wH!,bC (i:=2) nd rfl d!,wI!,[aW!,eC!,iS_],wJ!,[aW!,eC!,b6_],wK!,bR (mX T) f_ rfl dv_,wL!,eY P_ bQ mN! bX n!,wM!,b3c hr ha.ok hb.ok hs,wN!,a6l ho ha.ok hb.ok hm,wO!,lS (eJ (aO (kF T) f_ rfl ca_ ar_)),wP!,xE h.ok he,wQ!,b2e ha.ok hb.ok,wR!,⟨G1,ρ,d,cP!,e,λG2 H2 s2=>k G2 H2 cP_⟩,wT!,⟨b2z h.ok⟩,wU!,λv G1 H1 s1 r1=>?_,wV!,k _ G1 H1 s1 Aj.bl,wW!,k _ G1 H1 s1 Aj.bl,wX!,DT X own c ft,wY!,cO h.ok hs.ok hst,wZ!,(by rw[<-aH r1];exact fB hl),w0!,aF cN_ (aF cG! aP),w1!,HH (f:=c_) z,w2!,⟨G,ρ,ds,er,e1,λvs G1 H1 s1 r1=>hd s1.sub r1 e' λv G2 H2 s2 r2=>k v G2 H2 cP_ r2⟩,w3!,Wy X.K ps.length g,w4!,(am!).length=O!,w5!,.dct kp ep,w6!,.dct kf ef,w7!,⟨_,mup_same⟩,w8!,k _ G H aD! Aj.str,w9!,λ_ _ _=>rfl]
def z'ww:String:=z [wa_,λx c h=>(v9_).1,wb_,f2 Hq cc_ f9!,wc_,At (Gh (Dg (fT wb_)) (Gh mH_ (wT (w2 uN! (w1 Gi ej!) uN_)))) (Bb (Hi M! O_)) Bm,wd_,∀a vs,Ef KF H a vs->Ef KF H' a vs,we_,λ_ _ q=>bS e q,wf_,λ_ _ q=>a6g e q,wg_,fA ae_ dQ nt! r_ q!,wh_,⟨a,vs,rfl,h,r⟩,wi_,cE (iB T) f_ n_ f7_,wj_,Hc (iRng nu!),wk_,wl (Au wk!),wl_,Ai 4 (Fx t.B5 2 (Kf t) bG_),wm_,Dg (fT wm!),wn_,qZ w! (lB cG! cG! xY),wo_,Ai 5 (Ht (Aa (wl (Au wo!)) Ac)),wp_,Ai 2 (w2 Gk bH_ (wl (Ff 1 [1] iO! G! (fT nw!) k!))),wq_,Hc (iRng (fIf iX_ iQ! (f2 modD wq! iQ!))),wr_,Ai 9 (wl (f1 Fp wr!)),ws_,f2 ltD aK_ wt!,wt_,f2 eqD' (f2 modD (f1 g_Lmix (aCons k! (aCons (fC (.int 62)) aNil))) ai_) F_,wu_,Ll T yy os,wv_,aF r_ vy!,ww_,Ai 10 (Ap 4 Ml (Aa o_ (Aa bH_ (Aa (wl aj!) (Aa iV! Ac))))),wx_,f1 Ia (aCons f9! aNil),wy_,By (fT wx_),wz_,Hc (iRng dm!),wA_,⟨λh1 s Z H Q I ⟨G,ρ,d,er,e,k⟩=>h h1 s Z H Q I nz!⟩,wB_,At (wT (w2 Vn (Az t.B5 "have" 2 eq! O_ (Aa (wl (fVar 12)) Ac)) (w1 Gi (Aa (Cd 1 [12] (Ci bH_) G! vW! i!) Ac)))) (Bg iU_) Bm,wC_,λb o z=>?_,wD_,aCons aK! aNil,wE_,Cd 1 [5] (Hc (Ct aK!)) G! iE! (w2 fT_ i! o_),wF_,[Y_,av_,do_],wG_,[Y_,b9!,"first","many"],wH_,[aW!,eC!,b6_,f7!],wI_,[ec_,cD!,ed!,ed_],wJ_,.int 16 tk,wK_,t.HandsError,wL_,a6r ho ha.ok hb.ok hm,wM_,a0y ho ha.ok hb.ok,wN_,λx H'=>∃k,x=.bl k/\Q k H',wO_,⟨d,rfl,nB!⟩,wP_,⟨a6j h.ok⟩,wQ_,(by simp[e]),wR_,k G1 H1 s1,wS_,⟨h.ok.pt⟩,wT_,b3e ha.ok hb.ok,wU_,λv G2 H2 s2 r2=>k v G2 H2 cP_ r2,wV_,(k'.map c_).Nodup,wW_,c2a ha.ok hb.ok,wX_,mQ hc.ok ha.ok hb.ok,wY_,aF eD! (aF eD! aP),wZ_,s1.trans (Br.laid s1.sub hp),w0_,s1.sub.free hp,w1_,jY hc hg hm hv ha.ok hn au he ar,w2_,vK hc hg hm hv ha.ok hn au he ar,w3_,(by rw[HA h];rfl),w4_,∀ρ ds,fs ρ=some ds->e_=O!,w5_,∀ρ ds,fs ρ=some ds->e_=n,w6_,bF T.T2 T.W5 n_,w7_,h.fr b b1 b2,w8_,fv ρ=some v,w9_,Int->Int->D]
def z'x:String:=z [xa!,∀i j H,Aj KF H ba_ (gv i j),xb!,k _ G H aD! (hg _ _ G),xc!,lst .non u,xd!,Bq kf a0 n,xe!,Bq kp n a0,xf!,λi j=>decide (0<=j)&&decide (j<=1000000)&&decide (cB!<2 ^ 64),xg!,.bl (Pg i j),xh!,(by simpa using K2),xi!,Ab->Option nK!,xj!,[.int a,.int b],xk!,s4.trans go!,xl!,(aM!).map c_,xm!,aC y! ix_,xn!,aI (bW iH_),xo!,λa z=>(by subst z;cases e2),xp!,(λxs H Q=>∃p ys,xs=iz!/\nN!/\∀l,H l=none->Q (.ref l) mL_),xq!,bs.map V.bl,xr!,.builtin "all",xs!,i=e_->J.stop i H',xt!,Af KF G1 ds vs,xu!,rangeD j.toNat,xv!,⟨hl,je_⟩,xw!,oF gr! (ad (.dir true)) (ad xv_) (ad .nums) nS_ (ad .hid),xx!,Zb KF 2 (Rp d3! (Rp (Lq j) Zc)),xy!,⟨cV (by rw[<-aH ax];omega),?_⟩,xz!,cz.grow x2,xA!,ax.mono x2.g,xB!,(xA!).mono x3.g,xC!,λx0 x1 x2 x3 x4=>(he x0 x1 x2 x3 x4).ok,xD!,λJ G1 H1 x1 dr=>?_,xE!,CA X.K G0 F0 own cu f,xF!,h2.ok G0 F0,xG!,.Assign eM! e pos,xH!,sH hN hi hx h.ok hs hf,xI!,∀{a1 a2 a3 a4 a5 a6:Addr},(bu!).lookup m=none,xJ!,λj d q n=>?_,xK!,λj hj=>?_,xL!,λz=>absurd z.symm c8,xM!,mup_ne (IA p2),xN!,[e].length+(er_).length+f2!<30,xO!,cO h.ok fI hst,xP!,h5.mono x.g,xQ!,DE X own ix fx,xR!,jC hN ym hd bz,xS!,De x=some kx,xT!,ad (.nm i),xU!,ds.drop cT_,xV!,Wb KF x qual st af fd,xW!,F.ok S xV_ (λah A outer s H vs Q E hr h=>?_),xX!,⟨er,Br.refl sub,an_⟩,xY!,sB I xs ys vs n n' rr b6,xZ!,.tup [.int x,.int y],x0!,g++[.tup gy!],x1!,(List.range (min us.toArray.size n8!)).all (λj=>eqD n6_ n7!)&&jr!==n8!,x2!,(by rw[GW,GW,<-h3,<-h4,<-Y,<-h2];simpa using hl),x3!,a0n I _ _ _ n n' r r',x4!,A.units+dep d<cLine,x5!,⟨.bl _,H,I,rfl,q⟩,x6!,List.range m.toNat,x7!,Gg X.K r' g',x8!,Bn g g' fa fb fc,x9!,⟨bb,rfl,?_⟩]
def z'xx:String:=z [xa_,De n=some kn,xb_,(∀b,b≠f->b≠p->M' b=M b),xc_,(K.f _).symm.trans u6,xd_,λ_ j=>decide (0<j),xe_,λ_ j=>decide (0<j)&&decide (j<1073741824),xf_,[gq!,a0_,some o,none,none],xg_,bG P_ bQ go_ aB n!,xh_,k v G H aD! h2,xi_,Cf xs lo hi,xj_,[.int a,.int b,.int c],xk_,a0q rr l h,xl_,u'++[(s,p)]++v,xm_,(by rw[<-z];exact hq),xn_,⟨_,h.mem.mpr al_,rfl⟩,xo_,(λxs H Q=>∃x n,xs=[x]/\Zf KF x H n/\Q fJ_ H),xp_,λp hp=>k _ _ _ go! (cQ eJ_ rr),xq_,if y=n then[]else W.txt y,xr_,(∀d,ds[i]?=some d->J.go i H'/\∀x gr,J.yld i H' x gr->∃ua,Br G' H' ua gr/\Aj KF ua d x),xs_,PI X tg e wi,xt_,("numbers",.fn a4),xu_,⟨dA!,λhi=>by rw[GY,LN]at hi;exact NU hi.symm⟩,xv_,.dir false,xw_,.fn (ad gr_),xx_,Xn KF J ds G1,xy_,⟨go,nV_⟩,xz_,⟨by rw[s];exact IL ty.1 hB,by rw[s];exact ty.2⟩,xA_,((xA!).mono x3.g).mono x4.g,xB_,Yk X.K [] ft,xC_,a6q cx cj j4 g6 cap calm al.ok hg hi xC! hs,xD_,er.grow x1,xE_,DS X own own1 st q1,xF_,h.inj _ _ l' hd z,xG_,(by rw[e1];exact hb),xH_,⟨G',ρ,r,er.grow x',e2,k⟩,xI_,s.or.sub.trans yk,xJ_,Z.set i ci!,xK_,(by rw[IS yj]),xL_,(λb u e=>by rw[aW (hG e)];exact s.or.sub b u e),xM_,.nx (ρ.set i (some (.lst (ds++[d])))),xN_,.Call (.Attribute bR_ "append" bf) [e] [] ak,xO_,.inl ⟨rfl,vs,Ef.of h3⟩,xP_,ρ.set i (some (.lst (ds.set k d))),xQ_,.Subscript bR_ ix p2,xR_,λiv G2 H2 x2 r2=>?_,xS_,λi hi p e=>?_,xT_,Br G0 F0 G1 H1,xU_,if x=i then l else W.txt x,xV_,λvs H Q E h=>h.1,xW_,hb ah A outer s H E hr,xX_,Iy (setT W i l'),xY_,(by unfold Aw at h;exact h),xZ_,Fg X.K H b ws,x0_,mup M (ad .hid) (.dct (Bq k6 gA! u_) (Kr k6 gA! e6)),x1_,setT W i (cutT x0! cT!),x2_,Ef X.K H b ws,x3_,(by rw[show B+(js.length+1)=B+1+js.length by omega];simpa using h'),x4_,q2.trans f',x5_,dep x<=40,x6_,⟨dx,dy,rx.mono sub,ry.mono sub,h.1.1,h.1.2,h.2,eN!⟩,x7_,DE X own c fc,x8_,⟨G,ρ,x,er,e1,λv G1 H1 s1 r1=>⟨G1,ρ,y,cP!,e2,λw G2 H2 s2 r2=>hg s2.sub gk! r2 e3 λt G3 H3 s3 r3=>?_⟩⟩,x9_,(x6!).map λk=>z+((k:Nat):Int)]
def z'y:String:=z [yz!,Addr,yA!,Around,yB!,Value,yK!,World,yL!,Program,yM!,Shared,ya!,(r2.mono s3.g).mono s4.g,yb!,W.txt i=U++v,yc!,p.mem_iff.mp hq,yd!,.bl (if neg then !(ds.any λd=>eqD d x)else ds.any λd=>eqD d x),ye!,L2.Key×Value,yf!,λh1 s Z H Q I h=>?_,yg!,mixKind X.prog X.w,yh!,Ok X.prog X.w X.K X.mg X.base k x ps g,yi!,Addr->Option yh_,yj!,[af_,aD_,yi_],yk!,.tup od!,yl!,λi _=>eU!<=i,ym!,⟨_,_,_,rfl⟩,yn!,.fn (ad (.row i false)),yo!,∀i h,St' i h->∃o,h.get? it=some o/\∀v,o.data≠.cell v,yp!,hI.inj _ _ l hi z,yq!,(D.tup jy!,D.str an!,true),yr!,setT W i (U++og!::v),ys!,ys.map V.str,yt!,.str (Txt.join z ys),yu!,s.cps.toList.zipIdx.map jx!,yv!,s.cps.toList.length,yw!,s.heap.IsTupleIter jt tt n,yx!,Builtin.SmallTypes.nextOf (.ref jt),yC!,Obj.cls_mapFields ..,yD!,firstArgMember _ _,yE!,e▸nw q l,yF!,show A.in1.handled=none from hh,yG!,((dF!).extBut.push _).push _,yH!,fVar 0 ρ=some jk_,yI!,ys[k2]?=some y,yJ!,(λag s'=>∃v,ag=.done (.ret v)/\Q v s'),yN!,KP gz d_ λY mh bo=>?_,yO!,bU g1 bo.extBut D.i1z,yP!,xU yO! yO_ gx λh2 TZ bj=>GP ?_,yQ!,(by rw[z]at l;exact l),yR!,old .ob trivial,yS!,bU (bU (bU g2 bo.extBut D.i2z) bj.extBut D.i12.symm) cg.extBut D.TOi2.symm,yT!,((jc.extBut bo.extBut D.l2z).extBut bj.extBut D.l2i1).extBut cg.extBut D.l2TO,yU!,rawInt om!,yV!,(by rw[<-z.1,<-z.2];exact l),yW!,[ax_,ax_,ax_,ax_],yX!,⟨Q_,Q_,Q_⟩,yY!,⟨_,gz,rfl⟩,yZ!,F.args_zip_next_1 _,y0!,BY h l1 l2,y1!,⟨hp,g,d,tk,os⟩,y2!,BZ s.heap l1,y3!,BX s.heap l1 l2,y4!,.tup [x,y],y5!,λc o _ _ hc e _=>⟨o.slots,kp c o hc e⟩,y6!,λc ps e=>lf_,y7!,I.hok c o e,y8!,λ_ e'=>e',y9!,[a1,a2,a3,a4]]
def z'yy:String:=z [ya_,o8.trans (s4.trans s5),yb_,∀x∈W.its,s∉(dy_).map c_,yc_,(by rw[hl];exact z),yd_,(a1_).sl i false l,ye_,⟨q,dE!,h⟩,yf_,ha.ok h1 s Z H _ I h,yg_,b5d (k:=oc!) r1,yh_,List D->Option D,yi_,.int (k':Nat),yj_,setT W i (U++(oc_).map jx!++v),yk_,λi _=>i<eU!,yl_,x.cps.toList.map λc=>.str an!,ym_,.int (k0:Nat),yn_,⟨(JV.mp hc).1,λv gr hy=>?_⟩,yo_,λi h=>i<=eU!/\St' i h,yp_,mup M1 nS_ (.dct (Bq k5 bu_ f0!) (Kr k5 bu_ e5)),yq_,λi h st=>TY _ i h st,yr_,(by rw[hl,HZ];exact GU _ z),ys_,ys.map (·.length),yt_,De b=some kb,yu_,if i∈W.its then setT W i (wrT b yu! cT!)else W,yv_,λw G2 H2 s2 r2=>?_,yw_,s.heap.IsTuple tt xs,yx_,f ρ M λ_ M1=>q ρ M1 R,yz_,fo ρ=some a2!,yB_,∀q,Ii V' q->Ii V q\/N q,yC_,∀q,N q->M (a9 q)=none,yD_,(by first|rfl|(simp only[firstArgMember];rfl)),yE_,wpAny_handled ?_,yF_,GP (wpAny_throw ?_),yG_,xs[k1]?=some x,yH_,fVar 1 ρ=some x,yI_,Builtin.«zip.__next__» ⟨[.ref z],[]⟩,yK_,m1 _ (h.lv (q:=.ob) trivial),yN_,q=.row x b\/q=.fol x b\/q=.pre x b,yO_,ig.extBut bo.extBut D.l1z,yP_,bo.extBut _ _ D.TOz gO,yQ_,RD uc λh3 vx cg=>?_,yR_,LJ uc rfl ?_,yS_,m1 _ (h.lv l),yT_,cg.extBut _ _ D.TOz.symm (bj.extBut _ _ D.i1z.symm mh),yU_,(V.sl x b []).ls x b,yV_,xs[k1]?=none\/ys[k2]?=none,yW_,bo.extBut _ _ c1 x,yX_,pyNext jD!,yY_,F.entry_zip_next,yZ_,hy.resolve_right c,y0_,BX h l1 l2,y1_,[eQ_,a0_,some a,cW!,some pl],y2_,BY s.heap l1 l2,y3_,(by rw[a0u];have:=r1.2;omega),y4_,λc o _ _ hc e _=>kp c o hc e,y5_,λc o hc e=>⟨o,kp c o hc e⟩,y6_,⟨o,es,ep,kp _ o (λz=>(hf _ z).2.1 rfl) ho,r⟩,y7_,λd o' hd e'=>kp d o' (λhm=>?_) e',y8_,Hg W.rows pl,y9_,(((({Iy W with pr:=λa p=>((a1_).pr a p/\a≠n)\/(a=n/\p=pl)}:Ix).sl pl true (Lk n b y8_)).nw n true).nw n false).nn n yW!]
def z'z:String:=z [zr!,W.Frag,za!,[z,TI,TO,i1,i2],zb!,λ_=>Iff.rfl,zc!,⟨c2,rfl⟩,zd!,hg.chl_same w.rnd,ze!,λc o _ _ _ e _=>vk!,zf!,λc o _ e=>⟨o,e⟩,zg!,(λc xs e=>by rw[or!];exact e),zh!,λc ps e=>⟨#[],by rw[or!,e];simp⟩,zi!,(λd q=>by rw[or_];exact q),zj!,[eQ_,aA_,some x,some s],zk!,(a1_).sl p0 true (Hg os_ p0),zl!,bootBuiltins "zip"=some oo_,zm!,.Call (.Name "zip" p) aJ! [] pos,zn!,⟨G,ρ,_,er,e1,λv G1 H1 s1 r1=>⟨G1,ρ,_,cP!,e2,yv_⟩⟩,zo!,⟨_,_,rfl,rfl,eN!⟩,zp!,cs.map λ_=>true,zq!,(by assumption),zs!,W.fnOf x x iL! be! aY! .none kV bn pm an ah ct,zt!,KF.lookup f=some ⟨oc,od,.func zs!,iq⟩,zu!,∀(kV bn pm:Value) (an:ez!) (ah ct:Value) (us:j_),W_=O!->bindArgs zs! cF!=pure cE_,zv!,.tup [gJ!,a,b],zw!,(λz=>by simp at z),zx!,fs.map D.fn,zy!,.lst (.str "root"::(ys++jN!)),zz!,λy=>NameG y,zA!,(if jM!<=big then Option.map D.lst (Df _ _ _ cn! ops)else none)=_,zB!,(show v=.none from hx),zC!,PJ hT NJ.lookup ?_,zD!,[ak!,oE!,zC_,y],zE!,λi hi=>?_,zF!,List.filter_sublist,zG!,s.heap.get? d=some o,zH!,dictWalkPlain d u cZ! es jQ!,zI!,λ_=>some true,zJ!,letters.cps.toList.length,zK!,λe=>hh (by rw[q3,e];simp),zL!,ks[i]?=some k',zM!,al=none/\rest.find? cY_=Kk ks k,zN!,(by rw[<-e];exact q1),zO!,.lst kinds,zP!,Cf its e1! none,zQ!,pz _ (a2w z),zR!,nW (s:=dG_) hu x hk ho hd ?_,zS!,if e_<=1000 then _ else _,zT!,dictSet a u v,zU!,[bT_,.int base,jM_,.int most],zV!,("cut"==k||"set"==k),zW!,.tup [jL!,item,.int (m0 / 12%4),.int (m0 / 48%2000 - 1000)],zX!,cH (g:=Sr false) (x:=.str k) rfl rfl (in2 k "cut" "set"),zY!,lN rfl rfl,zZ!,Paired F l m,z0!,(by unfold fAnd;rw[nX rfl (KB _)];rfl),z1!,Fu P w KF G H a c,z2!,MR P w KF M1 G1 H1,z3!,(by rw[hM];simp),z4!,a∈W.its/\Jr W Db/\¬Wn W.rows a Db,z5!,⟨?_,h2.mono x.g ?_⟩,z6!,[af_,aD_,.int (k:Nat)],z7!,(oc_).map jx!,z8!,.tup bV!,z9!,Vv W z8! d W']
def z'zz:String:=z [za_,GZ.mpr rfl,zb_,HA λz=>c1 z.1,zc_,[z,TO,i1,i2],zd_,λc o _ _ _ e _=>e,ze_,λc o hc e n=>?_,zf_,(λz=>by cases z;exact .inr aI_),zg_,(λc o u e=>by rw[or!];exact e),zh_,I1.hok c o e,zi_,ad (.row p0 true),zj_,X.mg "zip"=none,zk_,starEach aJ! X.env=dh!::starEach [b] X.env,zl_,(backTo pos (starEach [b] X.env)).any c_=false,zm_,nV w.rnd z ju,zn_,(λx y H Q=>Pz (λi j=>.bl hZ!) x y H Q\/∃i j,x=.str i/\y=.str j/\Q xg! H),zo_,cs.map λ_=>D.bl true,zp_,(jJ_).any λd=>eqD d bS_,zq_,(n::r).map D.int,zs_,W.nsIn KF mainGlobals x=some d9!,zt_,W.codeIn KF ah x=true,zu_,rows.map (Yp w),zv_,(Sum.inr r.1:L2.Key)=Sum.inr y,zw_,Sum.inr.inj z,zx_,fs.map V.ref,zy_,fs.map Value.ref,zz_,⟨_,_,rfl,b1,b2,b3,b4⟩,zA_,List L2.Key,zB_,.lst (.str "root"::ys),zC_,some (.tup [.int h',aD_,jL_,.tup oB!]),zD_,Kk ks k=some j,zE_,es[i]?=some e,zF_,Lw P w s.heap es ks,zG_,o.data=.dict es ep,zH_,(by simpa using hne),zI_,[none,some fJ_,some oG_],zJ_,1+3*(i:Int),zK_,[some fJ_,a2_,some oG_],zL_,sSeq Xj (sSeq dq14 dq15),zM_,sSeq BJ (sSeq Zd zL_),zN_,[E_,ak_,ak!,a2_,none,none,none,none,none,none,none,none],zO_,Cf its e1! none++Cf its none e1!,zP_,Cf its none e1!,zQ_,dictGet a u,zR_,Nat.ble ds.length 1000=true,zS_,HC (Nat.le_of_ble_eq_true hl),zT_,rJ ho hc hd (by simp[Xe]),zU_,LV (s:=dG_) ho hd ?_,zV_,es.eraseIdx j,zW_,Builtin.Dict.takeOut a u,zX_,(by simpa using ai),zY_,a1j rfl rfl e1,zZ_,(by rw[d8,i1];rfl),z0_,.ins C dx vs,z1_,ag _ ((au!).trans ((au!).trans ((au!).trans ((jV!).trans (wu k_ k_ k_ k_))))),z2_,a.free hM z,z3_,a∈W.its/\Jr W b/\¬Wn W.rows a b,z4_,wrT b jX! dI!,z5_,MR P w KF M' G' H',z6_,List D->Mh->Prop,z7_,List D->Mh->Prop,z8_,Xt X.prog X.w X.K own f,z9_,D.tup bV!∉pre]
end
open Lean in
local macro_rules|`($s:ident)=>match s.getId with|.str .anonymous t=>let c:=t.back;if c=='!'||c=='_' then match (let b:=c=='!';if t.length<3 then if b then z'0 else z'00 else match t.front with|'a'=>if b then z'a else z'aa|'b'=>if b then z'b else z'bb|'c'=>if b then z'c else z'cc|'d'=>if b then z'd else z'dd|'e'=>if b then z'e else z'ee|'f'=>if b then z'f else z'ff|'g'=>if b then z'g else z'gg|'h'=>if b then z'h else z'hh|'i'=>if b then z'i else z'ii|'j'=>if b then z'j else z'jj|'k'=>if b then z'k else z'kk|'l'=>if b then z'l else z'll|'m'=>if b then z'm else z'mm|'n'=>if b then z'n else z'nn|'o'=>if b then z'o else z'oo|'p'=>if b then z'p else z'pp|'q'=>if b then z'q else z'qq|'r'=>if b then z'r else z'rr|'s'=>if b then z's else z'ss|'t'=>if b then z't else z'tt|'u'=>if b then z'u else z'uu|'v'=>if b then z'v else z'vv|'w'=>if b then z'w else z'ww|'x'=>if b then z'x else z'xx|'y'=>if b then z'y else z'yy|'z'=>if b then z'z else z'zz|_=>if b then z'0 else z'00).splitOn ("\r"++t++"\r") with|[_,f]=>do return z'Z (.fromRef (<-getRef)) f|_=>Macro.throwUnsupported else Macro.throwUnsupported|_=>Macro.throwUnsupported
open Lean in
local macro_rules|`(tactic|push_cast)=>`(tactic|show"pc!")|`(tactic|push_cast[$x,*])=>match z't't.splitOn "\rpc!\r" with|[_,f]=>do let s:=(z'Z (.fromRef (<-getRef)) f)[1][1][0][0][0];return s.setArg 4 (s[4].setArg 1 (mkNullNode (s[4][1].getArgs.push (mkAtom ",")++x.elemsAndSeps)))|_=>Macro.throwUnsupported
open Lean in
local macro_rules|`(tactic|show$s:str)=>match z't't.splitOn ("\r"++s.getString++"\r") with|[_,f]=>do let q:=z'Z (.fromRef (<-getRef)) f;let q:TSyntax ``Lean.Parser.Tactic.tacticSeq:=⟨q[1][1]⟩;`(tactic|($q))|_=>Macro.throwUnsupported
set_option hygiene true
open Lean in
def z'N:Nat->Syntax->Syntax
|n+1,.node _ k a=>.node .none k (a.map (z'N n))
|_,.atom _ v=>.atom .none v
|_,.ident _ r n p=>.ident .none r n p
|_,x=>x
open Lean in
local macro_rules(kind:=Lean.Parser.Command.declaration)|x=>if x.getPos?.isNone||x[1].isOfKind ``Parser.Command.theorem then Macro.throwUnsupported else let k:=z'N 9999 x[1];let u:=match k[1][0].getId with|.str _ s=>s.front.isUpper|_=>false;match k.isOfKind ``Parser.Command.definition,(x[0].reprint.getD "").trimAscii.toString,u with|true,"",false=>do return z'N 9999 (<-`(theorem $(⟨k[1]⟩):declId $(⟨.node .none ``Parser.Command.declSig #[k[2][0],k[2][1][0]]⟩):declSig $(⟨k[3]⟩):declVal))|true,"nonrec",_|true,"",_=>do return z'N 9999 (<-`(noncomputable def $(⟨k[1]⟩):declId $(⟨k[2]⟩):optDeclSig $(⟨k[3]⟩):declVal))|_,_,_=>return z'N 9999 x
open Lean in
local macro_rules|`(universe $x*)=>do let p:=`PySem.Challenge;let c:=p.str "cw_manyhands_k12_taking_holds";return mkNullNode (<-(p.str "pw_manyhands_k12_taking"::x.toList.map (λi=>c.str i.getId.toString)++(List.range 743).map λn=>c.str s!"o_{n+43}").toArray.mapM λn=>do return z'N 99 (<-`(noncomputable def $(mkIdent (PySem.W.Fast.stemOf n).1):ident:=0)))
universe env_41 heap_39 heap_46 heap_786 sts_101 sts_116 sts_159 sts_224 sts_254 sts_305 sts_49 sts_511 sts_548 sts_606 sts_684 sts_71 sts_767 sts_86 tree_100 tree_115 tree_158 tree_221 tree_253 tree_304 tree_425 tree_47 tree_507 tree_547 tree_605 tree_683 tree_70 tree_766 tree_785 tree_85 view_39
local macro_rules|`(tactic|omega)=>`(tactic|first|lia|omega +splitDisjunctions)
theorem z'Hd{G:Prop}(h:∀g:Prop,(G->g)->g):G:=h G λx=>x
local macro_rules|`(tactic|obtain $p:rcasesPatMed:=$e:term)=>do let s:=p.raw.reprint.getD "";if (s.splitOn ",").length>2+(s.splitOn "rfl").length then `(tactic|first|(refine z'Hd λg k=>?_;rcases $e:term with $p:rcasesPatMed<;>refine k ?_<;>clear g k)|rcases $e:term with $p:rcasesPatMed) else `(tactic|rcases $e:term with $p:rcasesPatMed)
open Lean in
local macro_rules|`(tactic|rintro $x:rintroPat*)=>let l:=x.back!.raw[0];let p:TSyntax `rcasesPat:=⟨l⟩;if l.isOfKind ``Parser.Tactic.rcasesPat.tuple&&((l.reprint.getD "").splitOn ",").length>3 then `(tactic|(rintro $(x.pop):rintroPat* z';obtain $p:rcasesPat:=z')) else Macro.throwUnsupported
noncomputable section
namespace L2
open PySem PySem.Spec PyProof.Rows
abbrev Key:=Sum Int Str
def Oj:Key->Value->Bool
 |.inl k,v=>Value.isInt k v
 |.inr x,v=>Value.isStrOf x v
def BD(w:yK!):Key->Int
 |.inl k=>hashInt k
 |.inr x=>hashStr w x
def bH:∀{k:Key} {v:yB!},Oj k v=true->(∃i t,k=Sum.inl i/\v=Value.int i t)\/(∃x t,k=Sum.inr x/\v=Value.str x t)
 |.inl i,v,h=>by
  obtain⟨t,e⟩:=Value.isInt_shape (k:=i) (v:=v) h;exact .inl ⟨i,t,rfl,e⟩
 |.inr x,v,h=>by
  obtain⟨t,e⟩:=Value.isStrOf_shape (x:=x) (v:=v) h;exact .inr ⟨x,t,rfl,e⟩
def wA(i:Int)(t:Tok):Oj kO! da!=true:=by simp[Oj,Value.isInt]
def pE(x:Str)(t:Tok):Oj kP! fm_=true:=by simp[Oj,Value.isStrOf]
def c5f(a b:Int):decide (kO_=Sum.inl b)=fn!:=by
 by_cases e:a=b
 .subst e;simp
 .have h:¬kO_=Sum.inl b:=λq=>e (Sum.inl.inj q);rw[HB h];exact(IQ.mpr e).symm
def c5c(a b:Str):decide (kP_=Sum.inr b)=decide (a=b):=by
 by_cases e:a=b
 .subst e;simp
 .have h:¬kP_=Sum.inr b:=λq=>e (Sum.inr.inj q);rw[HB h,HB e]
def c5e(a:Int)(b:Str):decide (kO_=Sum.inr b)=false:=HB p6_
def c5d(a:Str)(b:Int):decide (kP_=Sum.inl b)=false:=HB p6_
nonrec def mixKind(prog:yL!)(w:yK!):PySem.KeyKind prog w Key where
 is:=Oj
 hash:=BD w
 inj:=λv a b ha hb=>by
  obtain⟨i,t,rfl,rfl⟩|⟨x,t,rfl,rfl⟩:=bH ha
  .obtain⟨j,u,rfl,e⟩|⟨y,u,rfl,e⟩:=bH hb
   .injection e with e1 _;rw[e1]
   .exact kQ_
  .obtain⟨j,u,rfl,e⟩|⟨y,u,rfl,e⟩:=bH hb
   .exact kQ_
   .injection e with e1 _;rw[e1]
 byValue:=λk v h=>by
  obtain⟨i,t,rfl,rfl⟩|⟨x,t,rfl,rfl⟩:=bH h<;>rfl
 pyHash:=λhv h=>by
  obtain⟨i,t,rfl,rfl⟩|⟨x,t,rfl,rfl⟩:=bH hv
  .exact wpAny_pyHash_int h
  .exact wpAny_pyHash_str h
 eqBool:=λhu hv h=>by
  obtain⟨i,t,rfl,rfl⟩|⟨x,t,rfl,rfl⟩:=bH hu
  .obtain⟨j,u,rfl,rfl⟩|⟨y,u,rfl,rfl⟩:=bH hv
   .rw[c5f]at h;exact wpAny_eqBool_int h
   .rw[c5e]at h;exact SeqAt.EqAt.int_str i t y u _ _ _ _ h
  .obtain⟨j,u,rfl,rfl⟩|⟨y,u,rfl,rfl⟩:=bH hv
   .rw[c5d]at h;exact SeqAt.EqAt.str_int x t j u _ _ _ _ h
   .rw[c5c]at h;exact wpAny_eqBool_str h
 «strs»:=λk x t v h=>by
  obtain⟨i,u,rfl,e⟩|⟨y,u,rfl,e⟩:=bH h
  .exact kQ_
  .injection e with e1 _
   subst e1;cases v<;>rfl
def a1n(prog:yL!)(w:yK!)(i:Int)(t:Tok):(p7!).is kO! da!=true:=wA i t
def kI(prog:yL!)(w:yK!)(x:Str)(t:Tok):(p7!).is kP! fm_=true:=pE x t
end L2
namespace L2
open PySem PySem.Spec PyProof.Rows
inductive V where
 |non|bl (b:Bool)|int (i:Int)|str (x:Str)|byt (b:Array UInt8)|flt (b:UInt64)|ref (a:yz!)|ty (n:String)
 deriving DecidableEq
def Be:V->Value->Prop
 |.non,u=>u=bZ_
 |.bl b,u=>u=Value.bool b
 |.int i,u=>∃t,u=Value.int i t
 |.str x,u=>∃t,u=Value.str x t
 |.byt b,u=>∃t,u=Value.bytes b t
 |.flt b,u=>∃t,u=Value.float b t
 |.ref a,u=>u=Value.ref a
 |.ty n,u=>u=Value.type n
abbrev Aq:List V->List Value->Prop:=Paired Be
def Aq.length(r:da_):g!=W_:=MY r
def Aq.get:∀{xs:o!} {us:j_} {i:Nat} {x:V},Aq xs us->xs[i]?=some x->∃u,us[i]?=some u/\Be x u
 |_,_,_,_,.nil,e=>by simp at e
 |_,_,0,_,.cons r _,e=>by simp at e;subst e;exact kR!
 |_,_,i+1,x,.cons _ t,e=>by
  obtain⟨u,Y,h2⟩:=Aq.get (i:=i) (x:=x) t ct_;exact p7_
def Aq.set(r:Be x u):∀{xs:o!} {us:j_} (i:Nat),Aq xs us->Aq (xs.set i x) (us.set i u)
 |_,_,_,.nil=>.nil
 |_,_,0,.cons _ t=>.cons r t
 |_,_,i+1,.cons q t=>.cons q (Aq.set r i t)
def Aq.append(h:da_)(s:Aq ys ws):Aq dV! (us++ws):=by
 induction h with
 |nil=>exact s
 |cons r _ ih=>exact .cons r ih
def Aq.take:∀{xs:o!} {us:j_} (n:Nat),Aq xs us->Aq (xs.take n) (us.take n)
 |_,_,0,_=>.nil
 |_,_,_+1,.nil=>.nil
 |_,_,n+1,.cons r t=>.cons r (Aq.take n t)
def Aq.drop:∀{xs:o!} {us:j_} (n:Nat),Aq xs us->Aq (xs.drop n) (us.drop n)
 |_,_,0,r=>r
 |_,_,_+1,.nil=>.nil
 |_,_,n+1,.cons _ t=>Aq.drop n t
def Lu:Option V->Option Value->Prop
 |some v,some u=>Be v u
 |none,none=>True
 |_,_=>False
def KV:List (κ×V)->List (κ×Value)->Prop:=Paired λ(p:κ×V) (q:κ×Value)=>p.1=q.1/\Be p.2 q.2
nonrec def kV:Key->V
 |.inl i=>.int i
 |.inr x=>.str x
inductive HO where
 |lst (xs:o!)
 |tup (xs:o!)
 |dK (σ:List (Key×V))|dT (σ:List kT!)
 |set (S:Int->Bool) (n:Nat)
 |ins (C dx:yz!) (fs:List cu!)
 |own (x:yz!)
 |xd (fs:List cu!)
 |met (f x:yz!)
 |rng (lo hi:Int)
 |frz (o:Obj) (u:HO)
 |tbl (ps:bi_)
 |ext (φ:Heap->Prop)
abbrev Hp:=Addr->Option HO
nonrec def upd(H:Hp)(a:yz!)(o:HO):Hp:=λb=>if b=a then some o else H b
def bK{H:Hp}{o:HO}:upd H a o a=some o:=by unfold upd;rw[A!]
def aW{H:Hp}{o:HO}(h:b≠a):upd H a o b=H b:=by unfold upd;rw[HA h]
def cD{H:Hp}{o:HO}(h:H a=some o)(h':k7!):a≠b:=by intro e;subst e;rw[h]at h';cases h'
section
variable(P:yL!)(w:yK!)
def Dp(H:Hp)(h:Heap)(a:yz!):HO->Prop
 |.lst xs=>g!<=sizeLine/\∃(its:j_) (n:Nat),Aq xs its/\h.get? a=some {cls:=.type "list",data:=.seq its.toArray n}
 |.tup xs=>g!<=sizeLine/\∃its:List Value,Aq xs its/\IsTup h a aQ!
 |.dK σ=>ap!<=sizeLine/\db!=false/\∃vs,KV σ vs/\h.DictOf a8! a vs
 |.dT σ=>ap!<=sizeLine/\db!=false/\∃xs:List kT_,
   Paired (λ(p:List Key×V) (q:List Key×Addr×Value)=>p.1=q.1/\H q.2.1=some qd_/\Be p.2 q.2.2) σ xs/\
   ∃o es ep,h.get? a=some o/\hl_/\o.data=.dict es ep/\es.toList=xs.map (entryOfKey fp_)/\(xs.map c_).Nodup
 |.set S n=>h.SetOf (intKind P w) a S n
 |.ins C dx fs=>H dx=some fq!/\a8_<=1000/\dx≠a/\h.get? a=some kU!/\
   ∃mA,h.Ns1 dx mA/\qf_/\PySem.Within mA kU_
 |.own _=>∃o,h.get? a=some o
 |.xd fs=>∃mA,h.Ns1 a mA/\∀f,Lu qf! (mA f)
 |.rng lo hi=>∃t u v,h.get? a=some {cls:=.type "range",data:=.fields #[.int lo t,.int hi u,.int 1 v]}
 |.frz o u=>h.get? a=some o/\Dp H h a u
 |.tbl ps=>h.get? a=some {cls:=.none,data:=.fields ps}
 |.met f x=>h.get? a=some (W.methodObj ah_ bA!)
 |.ext φ=>φ h/\(∃o,h.get? a=some o)/\∀Y h2:Heap,φ Y->(∀o,Y.get? a=some o->h2.get? a=some o)->φ h2
def Jx(H:Hp)(h:Heap):Prop:=∀a o,H a=some o->Dp P w H h a o
end
section
def Dp.lt(x:kV!):a<bA_:=by
 cases o with
 |lst xs=>obtain⟨_,_,_,_,e⟩:=x;exact HP e
 |tup xs=>obtain⟨_,_,_,p⟩:=x;exact p.lt
 |dK σ=>obtain⟨_,_,_,_,o,_,_,e,_⟩:=x;exact HP e
 |dT σ=>obtain⟨_,_,_,_,o,_,_,e,_⟩:=x;exact HP e
 |set S n=>obtain⟨o,_,_,_,e,_⟩:=x;exact HP e
 |ins C dx fs=>obtain⟨_,_,_,e,_⟩:=x;exact HP e
 |own y=>obtain⟨_,e⟩:=x;exact HP e
 |xd fs=>obtain⟨_,⟨_,_,_,e,_⟩,_⟩:=x;exact HP e
 |rng lo hi=>obtain⟨_,_,_,e⟩:=x;exact HP e
 |frz ob u=>obtain⟨e,_⟩:=x;exact HP e
 |tbl ps=>exact HP hm!
 |met f y=>exact HP hm!
 |ext φ=>obtain⟨_,⟨_,e⟩,_⟩:=x;exact HP e
def Paired.mapP{F G:α->β->Prop}(h:Paired F WC WD)(f:∀a b,F a b->G a b):Paired G WC WD:=by
 induction h with
 |nil=>exact .nil
 |cons r _ ih=>exact .cons (f _ _ r) ih
def Dp.stay(x:kV!)(k:∀b u,(b=a\/H b=some fq!)->h.get? b=some u->h'.get? b=some u)
  (ho:∀b,H b=some fq!->H' b=some fq!)(ht:qg_):Dp P w H' h' a o:=by
 induction o with
 |lst xs=>obtain⟨z,its,n,r,e⟩:=x;exact⟨z,its,n,r,bj!⟩
 |tup xs=>obtain⟨z,its,r,ob,e,c⟩:=x;exact⟨z,its,r,ob,bj!,c⟩
 |dK σ=>obtain⟨z,y,vs,r,ob,es,ep,e,c⟩:=x;exact⟨z,y,vs,r,ob,es,ep,bj!,c⟩
 |dT σ=>
  obtain⟨z,y,xs,r,ob,es,ep,e,c⟩:=x;exact⟨z,y,xs,Paired.mapP r λp q z=>⟨z.1,ht _ _ z.2.1,z.2.2⟩,ob,es,ep,bj!,c⟩
 |set S n=>obtain⟨ob,es,ep,t,e,c⟩:=x;exact⟨ob,es,ep,t,bj!,c⟩
 |ins C dx fs=>
  obtain⟨d,z,ne,e,mA,⟨od,es,ep,e2,c⟩,r⟩:=x;exact⟨ho _ d,z,ne,bj!,mA,⟨od,es,ep,k _ _ (.inr d) e2,c⟩,r⟩
 |own y=>obtain⟨ob,e⟩:=x;exact⟨ob,bj!⟩
 |xd fs=>obtain⟨mA,⟨od,es,ep,e,c⟩,r⟩:=x;exact⟨mA,⟨od,es,ep,bj!,c⟩,r⟩
 |rng lo hi=>obtain⟨t,u,v,e⟩:=x;exact⟨t,u,v,bj!⟩
 |frz ob u ih=>obtain⟨e,q⟩:=x;exact⟨bj!,ih q⟩
 |tbl ps=>
  have e:h.get? a=some {cls:=.none,data:=.fields ps}:=x;show h'.get? a=some {cls:=.none,data:=.fields ps};exact k a _ al_ e
 |met f y=>
  have e:h.get? a=some qj_:=x;show h'.get? a=some qj_;exact k a _ al_ e
 |ext φ=>obtain⟨p,⟨o,e⟩,st⟩:=x;exact⟨st _ _ p λo q=>k _ _ al_ q,⟨o,bj!⟩,st⟩
def Jx.lt(x:aR!)(e:H a=some o):a<bA_:=(x a o e).lt
def Jx.fresh(x:aR!)(e:bA_<=a):H a=none:=by
 cases q:H a with
 |none=>rfl
 |some u=>exact absurd (HY (x.lt q) e) db_
def Jx.kept(x:aR!)(k:hn!):Jx P w H h':=λa o e=>
 (x a o e).stay (λb u _ q=>k b u q) fs_ λ_ _ q=>q
def Jx.laid(x:aR!)(k:hn!)(hp:bA_<=a)(new:Dp P w cv! h' a o):Jx P w cv! h':=λb u e=>by
 have hn:=x.fresh hp;show"#>"
 .show"!s";exact new
 .rw[dc!]at e;exact(x b u e).stay (λc v _ q=>k c v q) (λc q=>by rw[ft!];exact q) λc xs q=>by rw[ft!];exact q
end
def Rd(H:Hp)(a:yz!)(u:HO):Prop:=H a=some u\/∃o,H a=some ft_
def Rd.ok{P:yL!}{w:yK!}{H:Hp}{u:HO}(r:Rd H a u)(x:aR!):Dp P w H h a u:=by
 obtain r|⟨o,r⟩:=r
 .exact x a u r
 .obtain⟨_,q⟩:=x a _ r;exact q
def BQ:Option HO->Prop
 |some (.lst _)=>True
 |some (.dK _)=>True
 |some (.dT _)=>True
 |some (.set _ _)=>True
 |some (.ins _ _ _)=>True
 |some (.ext _)=>True
 |_=>False
section
def Jx.write(ok:aR!)(mu:kX_)(he:kY!)(k:qn!)(qk:kY_)
  (new:Dp P w qo! h' x o'):Jx P w qo! h':=λb u q=>by
 have SK:∀c y,H c=some (.own y)->c≠x:=λc y r z=>by subst z;rw[r]at mu;exact mu
 have WG:∀c xs,H c=some aQ_->c≠x:=λc xs r z=>by subst z;rw[r]at mu;exact mu
 by_cases hb:b=x
 .subst hb;rw[bK]at q;cases q;exact new
 .rw[dc!]at q;by_cases dz:b=e
  .have q':H b=some ho_:=by
    obtain z|z:=he
    .exact absurd (dz.trans z) hb
    .rw[dz];exact z
   rw[q]at q';cases q';obtain⟨v,hv⟩:=qk;exact⟨v,by rw[dz];exact hv⟩
  .refine(ok b u q).stay (λc v hc r=>k c v ?_ r) (λc r=>by rw[aW (SK c b r)];exact r) λc xs r=>by rw[aW (WG c xs r)];exact r
   obtain rfl|hc:=hc
   .exact dz
   .rintro rfl;obtain z|z:=he
    .exact SK c b hc z
    .rw[hc]at z;cases z;exact hb rfl
end
structure Un(fs ex:aS!)(H H':Hp)(h h':Heap):Prop where
 keep:∀b o,h.get? b=some o->H b=none->b∉fs->b∉ex->h'.get? b=some o
 slot:∀b o,h.get? b=some o->H b=none->b∈fs->b∉ex->∃sl,h'.get? b=some {o with slots:=sl}
 free:∀b o,h.get? b=some o->H b=none->b∉ex->H' b=none
 there:∀b o,h.get? b=some o->b∉ex->∃o',h'.get? b=some o'
 tups:∀b xs,H b=some aQ_->H' b=some aQ_
 frzs:∀b o u,H b=some ft_->H' b=some ft_
 tbls:∀b ps,H b=some (.tbl ps)->∃qm,H' b=some qp!
section
def Un.any(u:qp_)(q:h.get? b=some ob)(n:k7!)(hx:b∉ex):∃sl,Y.get? b=some {ob with slots:=sl}:=by
 by_cases hb:b∈fs
 .exact u.slot b ob q n hb hx
 .exact⟨ob.slots,u.keep b ob q n hb hx⟩
def Un.kept(k:hn!):Un fs ex H H h h':=
 ⟨λb ob q _ _ _=>k b ob q,λb ob q _ _ _=>⟨ob.slots,k b ob q⟩,λ_ _ _ n _=>n,λb ob q _=>⟨ob,k b ob q⟩,λ_ _ q=>q,λ_ _ _ q=>q,λ_ ps q=>⟨#[],by rw[q];simp⟩⟩
def Un.refl:Un fs ex H H h h:=Un.kept λ_ _ q=>q
def Un.laid(k:hn!)(hp:bA_<=a)(hn:hq_):Un fs ex H cv! h h' where
 keep:=λb u q _ _ _=>k b u q
 slot:=λb u q _ _ _=>⟨u.slots,k b u q⟩
 free:=λb u q n _=>by rw[aW (IH (HY (HP q) hp))];exact n
 there:=λb u q _=>⟨u,k b u q⟩
 tups:=λb xs q=>by rw[ft!];exact q
 frzs:=λb u xs q=>by rw[ft!];exact q
 tbls:=λb ps q=>⟨#[],by rw[ft!,q];simp⟩
def Un.write(mu:kX_)(he:kY!)(k:qn!)(qk:kY_):Un fs ex H k0_ h h':=by
 have hx:∀b,H b=none->b≠x:=λb n z=>by subst z;rw[n]at mu;exact mu
 have hb:∀b,H b=none->b≠e:=λb n z=>by
  subst z;obtain r|r:=he
  .exact hx b n r
  .rw[n]at r;cases r
 have hm:∀b u,H b=some u->¬BQ (some u)->b≠x:=λb u q nm z=>by subst z;rw[q]at mu;exact nm mu
 refine⟨λb u q n _ _=>k b u (hb b n) q,λb u q n _ _=>⟨u.slots,k b u (hb b n) q⟩,λb u q n _=>by rw[aW (hx b n)];exact n,λb u q _=>?_,
  λb xs q=>by rw[k1!];exact q,λb u xs q=>by rw[k1!];exact q,λb ps q=>⟨#[],by rw[k1!,q];simp⟩⟩
 by_cases dz:b=e
 .subst dz;exact qk
 .exact⟨u,k b u dz q⟩
def Un.mono(u:qp_)(hs:∀b∈fs,b∈fs')(hx:∀b∈ex,b∈WH):Un fs' WH H H1 h Y:=
 ⟨λb ob q n hb he=>u.keep b ob q n (λz=>hb (hs b z)) λz=>he k1_,λ_ _ q n _ he=>u.any q n λz=>he (hx _ z),λb ob q n he=>u.free b ob q n λz=>he k1_,λb ob q he=>u.there b ob q λz=>he k1_,u.tups,u.frzs,u.tbls⟩
end
def CB(h:Heap)(H:Hp):List Addr:=(qu!).filter λa=>(H a).isSome
def Qj(h:Heap)(H:Hp):Heap:=W.hideAll h k3!
def b0j(h:Heap)(H:Hp):(hs!).objs.size=bA_:=W.hideAll_size _ _
def b5l(e:qu_)(n:k7!):(hs!).get? b=some o:=
 W.hideAll_get _ e λhm=>by
  have q:(H b).isSome=true:=(JG.mp hm).2;rw[n]at q;simp at q
def b9a(e:(hs!).get? b=some o):h.get? b=some o/\H b=none:=by
 have e':h.get? b=some o:=W.of_hideAll k3! e;refine⟨e',?_⟩;cases q:H b with
 |none=>rfl
 |some x=>
  have hm:b∈CB h H:=JG.mpr ⟨NP.mpr (HP e'),by simp[q]⟩;have z:(hs!).get? b=none:=W.hideAll_none k3! hm;rw[z]at e;cases e
def Xk(g h:Heap)(L:yz!):List dW_:=(qu!).filterMap λa=>if a=L\/(g.get? a).isSome=true then none else(h.get? a).map λo=>(a,o)
nonrec def rest(g h:Heap)(L d:yz!):List dW_:=(Xk g h L).filter λp=>decide (p.1≠d)
end L2
namespace L2
open PySem PySem.Spec PyProof.Rows
structure Mod(KF:zr!)(mg:L!)(base:Heap):Prop where
 kin:KF.In base
 glob:base.Ns mainGlobals mg
 blt:∃mb,base.Ns builtinsNs mb/\∀x:Str,x≠"__name__"->mb x=bootBuiltins x
 nolimit:base.NoLimit
structure Cx where
 prog:Program
 w:World
 K:W.Frag
 mg:Str->Option Value
 base:Heap
 A:Around
 N:List Str
 s₀:Shared
 H₀:Hp
 env:Env
 outer:List Env
 stack:List Env
 ex:List Addr
 fn:Str->Bool
 calm:Bool
 pn:List dW_
 xe:Value->Shared->Prop
nonrec def frs(l:ai!):List Addr:=l.filterMap (·.frame)
abbrev Cx.fs(X:Cx):List Addr:=frs X.outer
def Ut(sc:Scope)(x:Str):Prop:=sc.names.lookup x=some .local\/sc.names.lookup x=some .cell\/sc.names.lookup x=some .free
def Ul(sc:Scope)(x:Str):Prop:=sc.names.lookup x=some .local\/sc.names.lookup x=some .cell
def BR(env:Env)(h:Heap)(m:L!)(x:Str)(u:yB!):Prop:=
 (env.kindOf x=some .local/\m x=some u)\/((env.kindOf x=some .cell\/env.kindOf x=some .free)/\∃c,env.cells.lookup x=some c/\h.IsCell c (some u))
structure Cx.Ok(X:Cx):Prop where
 mod:Mod X.K X.mg X.base
 kind:k4!=.function
 glob:qv_=mainGlobals
 blt:X.env.builtins=builtinsNs
 above:dc_<=X.env.locals
 inj:∀x y c,X.env.cells.lookup x=some c->X.env.cells.lookup y=some c->x=y
 has:∀x,qw!->∃c,X.env.cells.lookup x=some c
 cab:∀x c,X.fn x=true->X.env.cells.lookup x=some c->dc_<=c
 hd:X.calm=true->ht_=none
 frames:X.A.frames=some X.stack
 stk:X.stack=X.outer\/(X.stack=X.env::X.outer/\X.env.frame=some X.env.locals)
 exf:∀b∈X.ex,b≠X.env.locals/\∀x c,X.env.cells.lookup x=some c->c≠b
 bs:∀b o,X.base.get? b=some o->X.s₀.heap.get? b=some o/\X.H₀ b=none
 bsz:X.base.objs.size<=dc_
 noex:∀b o,X.base.get? b=some o->b∉X.ex
 exfs:∀b∈X.ex,b∉X.fs
 funs:X.s₀.heap.FunFrames X.base X.outer
 frf:∀b∈X.fs,X.H₀ b=none
structure Inv(X:Cx)(h1:r!)(Z:List (Option V))(H:Hp)(s:yM!):Prop where
 ok:X.Ok
 os:s.os=X.s₀.os
 bare:AllBare s.gens
 base:Un X.fs X.ex X.H₀ H X.s₀.heap s.heap
 loc:∃m,s.heap.Ns X.env.locals m/\∀(i:Nat) (x:Str) (v:V),X.N[i]?=some x->Z[i]?=some aG!->Ut X.env.scope x->∃u,Be v u/\BR X.env s.heap m x u
 cell:∀x c,X.env.cells.lookup x=some c->∃v,s.heap.IsCell c v
 free:H X.env.locals=none
 freeC:∀x c,X.env.cells.lookup x=some c->H c=none
 pin:∀p∈X.pn++h1,s.heap.get? p.1=some p.2/\H p.1=none/\p.1≠X.env.locals/\p.1∉X.fs/\∀v,k5_≠.cell v
 hok:Jx X.prog X.w H s.heap
 len:dX!=k5!
section
variable{X:Cx}
def Cx.Ok.nofr(ok:X.Ok)(e:X.base.get? b=some o):b∉X.fs:=λhb=>by
 have:=(ok.funs.mem hb).1;rw[e]at this;cases this
def Inv.bs(I:a_):∀b o,X.base.get? b=some o->s.heap.get? b=some o/\H b=none:=λb o e=>
 ⟨I.base.keep b o (hu!).1 (hu!).2 (I.ok.nofr e) qA_,I.base.free b o (hu!).1 (hu!).2 qA_⟩
def Inv.bk(I:a_):∀b o,X.base.get? b=some o->s.heap.get? b=some o:=λb o e=>(I.bs b o e).1
def Inv.mod(I:a_):Mod X.K X.mg X.base:=I.ok.mod
def Inv.kIn(I:a_):X.K.In s.heap:=I.ok.mod.kin.keeps I.bk
def Inv.lt(I:a_):X.env.locals<g_:=let⟨_,hn,_⟩:=I.loc;hn.lt
def Inv.sz(I:a_):dc_<=g_:=IL I.ok.above (NT I.lt)
def Inv.nofs(I:a_)(h:g_<=a):a∉X.fs:=λhb=>by
 obtain⟨_,o,ho,_⟩:=I.ok.funs.mem hb;exact absurd (HY hv! (IL I.sz h)) db_
def Inv.cne(I:a_):∀x c,X.env.cells.lookup x=some c->c≠X.env.locals:=λx c e z=>by
 obtain⟨v,o,ho,hd⟩:=I.cell x c e;obtain⟨m,⟨o',es,ep,fg,j1,_⟩,_⟩:=I.loc;rw[z,fg]at ho;cases ho;rw[j1]at hd;cases hd
def Inv.funs(I:a_):s.heap.FunFrames X.base X.outer:=by
 have all:∀(l:ai!),(∀b∈frs l,b∈X.fs)->X.s₀.heap.FunFrames X.base l->s.heap.FunFrames X.base l:=by
  intro l
  induction l with
  |nil=>intro _ _;trivial
  |cons env r ih=>
   intro hs hl;obtain⟨hk,⟨L,o,hf,hn,ho,hd⟩,hr⟩:=hl;have hL:L∈X.fs:=hs L (by unfold frs;rw[NS,hf];exact GR);obtain⟨sl,e⟩:=I.base.slot L o ho (I.ok.frf L hL) hL λz=>I.ok.exfs L z hL
   exact⟨hk,⟨L,_,hf,hn,e,hd⟩,ih (λb hb=>hs b (by unfold frs;rw[NS,hf];exact GO _ hb)) hr⟩
 exact all X.outer (λ_ hb=>hb) I.ok.funs
def Inv.stack(I:a_):s.heap.FunFrames X.base X.stack:=by
 obtain e|⟨e,hf⟩:=k6_
 .rw[e];exact I.funs
 .rw[e];obtain⟨m,hn,_⟩:=I.loc;refine .cons (by rw[I.ok.kind];decide) hf hn ?_ I.funs;exact Heap.get?_none_of_le (IL I.ok.bsz I.ok.above)
def Inv.stkSub(I:a_):∀b∈frs X.stack,b∈X.env.locals::X.fs:=λb hb=>by
 obtain e|⟨e,hf⟩:=k6_
 .rw[e]at hb;exact GO _ hb
 .rw[e]at hb;unfold frs at hb;rw[NS,hf]at hb;exact hb
def Inv.stkFree(I:a_):∀b∈frs X.stack,H b=none:=λb hb=>by
 obtain e|hb:=GT.mp (I.stkSub b hb)
 .rw[e];exact I.free
 .obtain⟨_,o,ho,_⟩:=I.ok.funs.mem hb;exact I.base.free b o ho (I.ok.frf b hb) λz=>I.ok.exfs b z hb
def Inv.step{g':Array GenState}{t':Nat}{d':Drawn}{ch:aS!}(I:a_)
  (ji:∀b∈ch,hv_/\b≠X.env.locals/\hw!/\∀p∈X.pn++h1,p.1≠b)
  (keep:∀b o,b≠X.env.locals->b∉X.fs->b∉ch->s.heap.get? b=some o->H b=none->h'.get? b=some o)
  (slot:∀b o,b≠X.env.locals->b∈X.fs->b∉ch->s.heap.get? b=some o->H b=none->∃sl,h'.get? b=some {o with slots:=sl})(free:∀b o,b∉ch->s.heap.get? b=some o->H b=none->H' b=none)
  (there:∀b o,b∉ch->s.heap.get? b=some o->∃o',h'.get? b=some o')
  (tups:qg_)(frzs:∀b o u,H b=some ft_->H' b=some ft_)(tbls:∀b ps,H b=some (.tbl ps)->∃qm,H' b=some qp!)
  (ns:∀m,s.heap.Ns X.env.locals m->h'.Ns X.env.locals m)(hok:hx!)(hg:k7_):
  Inv X h1 Z H' {s with heap:=h',gens:=g',drawn:=d',toks:=t'}:=by
 have SL:∀b o,X.s₀.heap.get? b=some o->b≠X.env.locals:=λb o e=>IH k8!;have vd:∀b o,X.s₀.heap.get? b=some o->b∉X.ex->b∉ch:=λb o e hx hb=>by
  obtain z|z:=(ji b hb).1
  .exact hx z
  .exact absurd (HY cw! z) db_
 have SM:∀x c,X.env.cells.lookup x=some c->∀v,s.heap.IsCell c v->h'.IsCell c v:=λx c e v ⟨o,ho,hd⟩=>by
  have tu:c∉ch:=λz=>(ji c z).2.2.1 x c e rfl;by_cases hc:c∈X.fs
  .obtain⟨sl,q⟩:=slot c o qE! hc tu ho k9_;exact⟨_,q,hd⟩
  .exact⟨o,keep c o qE! hc tu ho k9_,hd⟩
 refine⟨I.ok,I.os,hg,⟨fv_,fv_,λb o e n hx=>?_,la!,λb xs e=>tups b xs (I.base.tups b xs e),λb o xs e=>frzs b o xs (I.base.frzs b o xs e),λb ps e=>?_⟩,?_,la_,?_,la_,bC!,hok,I.len⟩
 .exact keep b o (SL b o e) hb hz! hz_ lb!
 .show"!@";obtain⟨WJ,e2⟩:=slot b _ (SL b o e) hb hz! e1 lb!;exact⟨WJ,e2⟩
 .show"!9";exact free b o' hz! e1 lb!
 .show"!9";exact there b o' hz! e1
 .obtain⟨m1,e1⟩:=I.base.tbls b ps e;obtain⟨m2,e2⟩:=tbls b _ e1;exact⟨m1++m2,by rw[e2,Array.append_assoc]⟩
 .obtain⟨m,hn,hl⟩:=I.loc;refine⟨m,ns m hn,qI!⟩;obtain⟨u,r,l⟩:=hl i x v e1 e2 e3;refine⟨u,r,?_⟩;obtain l|⟨k,c,e,z⟩:=l
  .exact .inl l
  .exact .inr ⟨k,c,e,SM x c e _ z⟩
 .obtain⟨v,z⟩:=I.cell x c e;exact⟨v,SM x c e v z⟩
 .obtain⟨m,⟨o,_,_,ho,_⟩,_⟩:=I.loc;exact free _ o (λz=>(ji _ z).2.1 rfl) ho I.free
 .obtain⟨v,o,ho,hd⟩:=I.cell x c e;exact free c o (λz=>(ji c z).2.2.1 x c e rfl) ho k9_
 .show"!P";have tu:p.1∉ch:=λz=>(ji p.1 z).2.2.2 p hp rfl;exact⟨keep p.1 p.2 ne nf tu e n,free p.1 p.2 tu e n,ne,nf,d⟩
def Inv.un{t':Nat}(I:a_)(u:Un X.fs [] H H' s.heap h')(hok:hx!):Inv X h1 Z H' {s with heap:=h',toks:=t'}:=by
 obtain⟨m,⟨o,es,ep,ho,r⟩,_⟩:=id I.loc;obtain⟨sl,hL⟩:=u.any ho I.free d_;exact I.step (g':=s.gens) (d':=s.drawn) (ch:=[]) qJ_ (λb o _ hb _ e n=>u.keep b o e n hb d_) (λb o _ hb _ e n=>u.slot b o e n hb d_) (λb o _ e n=>u.free b o e n d_) (λb o _ e=>u.there b o e d_) u.tups u.frzs u.tbls (λm' hm=>by
  obtain⟨o',a7,bc,fg,r'⟩:=hm;rw[ho]at fg;cases fg;exact qK!) hok I.bare
def Inv.call(I:a_)(u:Un hA_ ch H H' s.heap h')(hok:hx!)(hg:k7_)
  (ji:∀b∈ch,hv_/\b≠X.env.locals/\hw!/\∀p∈X.pn++h1,p.1≠b):
  Inv X h1 Z H' {s with heap:=h',gens:=g',drawn:=d',toks:=t'}:=by
 obtain⟨m,⟨o,es,ep,ho,r⟩,_⟩:=id I.loc;obtain⟨sl,hL⟩:=u.any ho I.free λz=>(ji _ z).2.1 rfl
 exact I.step (ch:=ch) ji (λb o hL hb hc e n=>u.keep b o e n (λz=>(GT.mp (I.stkSub b z)).elim hL hb) hc) (λb o _ _ hc e n=>u.any e n hc) (λb o hc e n=>u.free b o e n hc) (λb o hc e=>u.there b o e hc) u.tups u.frzs u.tbls (λm' hm=>by
  obtain⟨o',a7,bc,fg,r'⟩:=hm;rw[ho]at fg;cases fg;exact qK!) hok hg
def Inv.turned(I:a_)(k:∀b o,b≠it->s.heap.get? b=some o->h'.get? b=some o)(hn:H it=none)(hL:it≠X.env.locals)
  (Y:it∈X.ex\/dc_<=it)(h2:∀x c,X.env.cells.lookup x=some c->c≠it)(h3:∀p∈X.pn++h1,p.1≠it):Inv X h1 Z H {s with heap:=h',toks:=t'}:=by
 have SN:∀b u,H b=some u->b≠it:=λb u e z=>by rw[z,hn]at e;cases e
 refine I.step (g':=s.gens) (d':=s.drawn) (ch:=[it]) fx_ (λb o _ _ hc e _=>k b o hB! e) (λb o _ _ hc e _=>⟨o.slots,k b o hB! e⟩) le!
  (λb o hc e=>⟨o,k b o hB! e⟩) le_ lf! (λb ps e=>lf_) lg! qN! I.bare
 .have e:b=it:=by simpa using hb
  subst e;exact⟨Y,hL,h2,h3⟩
 .show"#C";exact⟨o,es,ep,k _ o (IA hL) ho,r⟩
 .refine(lg_).stay (λc v hc q=>k c v ?_ q) fs_ λ_ _ q=>q;obtain z|z:=hc
  .rw[z];exact SN b u e
  .exact SN c _ z
def Inv.tok(I:a_)(t:Nat):Inv X h1 Z H {s with toks:=t}:=I.un (h':=s.heap) (t':=t) Un.refl I.hok
def Inv.kept(I:a_)(k:qO!):Inv X h1 Z H {s with heap:=h',toks:=t'}:=I.un (Un.kept k) (I.hok.kept k)
def Inv.laid(I:a_)(k:qO!)(hp:g_<=a)(new:Dp X.prog X.w cv! h' a o):
  Inv X h1 Z cv! {s with heap:=h',toks:=t'}:=I.un (Un.laid k hp (I.hok.fresh hp)) (I.hok.laid k hp new)
def Inv.write(I:a_)(mu:kX_)(he:kY!)(k:∀b u,b≠e->s.heap.get? b=some u->h'.get? b=some u)(qk:kY_)
  (new:Dp X.prog X.w k0_ h' x o):Inv X h1 Z k0_ {s with heap:=h',toks:=t'}:=I.un (Un.write mu he k qk) (I.hok.write mu he k qk new)
def Inv.pins_of(I:a_)(h:∀p∈ve,s.heap.get? p.1=some p.2/\H p.1=none/\p.1≠X.env.locals/\p.1∉X.fs/\∀v,k5_≠.cell v):Inv X ve Z H s:=
 ⟨I.ok,I.os,I.bare,I.base,I.loc,I.cell,I.free,I.freeC,λp hp=>(GS.mp hp).elim (λz=>I.pin p hC!) (h p),I.hok,I.len⟩
def a1h{N:D!}(hN:N.Nodup){i j:Nat}(a:N[i]?=some x)(b:N[j]?=some x):i=j:=by obtain⟨Y,e1⟩:=HG.mp a;obtain⟨h2,e2⟩:=HG.mp b;exact(List.getElem_inj hN).mp ug!
def uY{M:Model}(I:a_)(hN:aH!)(hi:ac!)(hx:aS_)(r:aT!)
  (h:∀s',Inv X h1 dY! H s'->(∃a,Heap.SameBut a s.heap s'.heap/\(a=X.env.locals\/X.env.cells.lookup x=some a))->Q () s')(hf:X.fn x=true\/X.env.scope.names.lookup x=some .local:=by first|exact .inl rfl|exact .inr rfl|assumption):wpAny M A qR! Q E s:=by
 obtain⟨m,hn,hl⟩:=id I.loc;have WK:(k4!==.class||(k4!==.module&&X.env.locals != qv_))=false:=by rw[I.ok.kind];rfl
 have SO:i<dX!:=by rw[I.len];exact(HG.mp hi).1
 have cne:=I.cne;have SQ:∀{a:yz!} {h':Heap},(∃o,s.heap.get? a=some o/\H a=none)->Heap.SameBut a s.heap h'->Jx X.prog X.w H h':=λ{a h'} ha hs b ob e=>by
  obtain⟨_,_,g6⟩:=ha;refine(qS_).stay qT! fs_ λ_ _ q=>q;rintro rfl;obtain rfl|hc:=hc
  .rw[g6]at e;cases e
  .rw[g6]at hc;cases hc
 obtain hk|hk:=hx
 .refine wpAny_storeName_local hk hn (λh' xh hs=>?_) WK;obtain⟨oL,_,_,lj,_⟩:=id hn;refine h _ ⟨I.ok,I.os,I.bare,qU!,⟨_,xh,qU_⟩,qV_,I.free,I.freeC,bC!,SQ ⟨oL,lj,I.free⟩ hs,qW!⟩ ⟨_,hs,dY_⟩
  .exact(qW_).trans hz_
  .show"!@";exact⟨sl,qX_⟩
  .show"!9";exact⟨o',qX_⟩
  .by_cases hj:j=i
   .show"#0";exact⟨u,r,.inl ⟨hk,R_⟩⟩
   .rw[lj_]at e2;obtain⟨u',r',q⟩:=hl j y v' e1 e2 e3;refine lk!;obtain⟨k,e⟩|⟨k,c,e,z⟩:=q
    .refine .inl ⟨k,?_⟩;have:y≠x:=λe=>hj (a1h hN e1 (e▸hi));simp[this,e]
    .exact .inr ⟨k,c,e,qZ!⟩
  .obtain⟨w',z⟩:=I.cell y c e;exact⟨w',qZ!⟩
  .show"!P";exact q0!
 .have xi:X.fn x=true:=by
   obtain z|z:=hf
   .exact z
   .rw[z]at hk;cases hk
  obtain⟨c,hc⟩:=I.ok.has x ll!;obtain⟨w',z⟩:=I.cell x c hc;refine wpAny_storeName_cell I.ok.kind hk hc z (λh' cb hs=>?_);obtain⟨oc,SS,WL⟩:=id z;refine h {s with heap:=h'} ⟨I.ok,I.os,I.bare,qU!,⟨m,hn.sameBut hs (IA (cne x c hc)),qU_⟩,λy c' e=>?_,I.free,I.freeC,bC!,SQ ⟨oc,SS,I.freeC x c hc⟩ hs,qW!⟩ ⟨c,hs,.inr hc⟩
  .exact(q1_).trans hz_
  .show"!@";exact⟨sl,q2_⟩
  .show"!9";exact⟨o',q2_⟩
  .by_cases hj:j=i
   .show"#0";exact⟨u,r,.inr ⟨.inl hk,c,hc,cb⟩⟩
   .rw[lj_]at e2;obtain⟨u',r',q⟩:=hl j y v' e1 e2 e3;refine lk!;obtain q|⟨k,c',e,z'⟩:=q
    .exact .inl q
    .refine .inr ⟨k,c',e,z'.sameBut hs ?_⟩;rintro rfl;exact hj (a1h hN e1 (I.ok.inj _ _ _ e hc▸hi))
  .by_cases gn:c'=c
   .subst gn;exact⟨_,cb⟩
   .obtain⟨w2,z2⟩:=I.cell y c' e;exact⟨w2,z2.sameBut hs gn⟩
  .show"!P";refine⟨(hs.2 p.1 ?_).trans e,n,ne,nf,d⟩;intro q;rw[q,SS]at e;have q':oc=p.2:=IW e;exact d w' (by rw[<-q'];exact WL)
def mI(I:a_)(hN:aH!)(hi:ac!)(hx:aS_)(r:aT!)
  (h:∀s',Inv X h1 dY! H s'->Q () s')(hf:X.fn x=true\/X.env.scope.names.lookup x=some .local:=by first|exact .inl rfl|exact .inr rfl|assumption):wpAny M A qR! Q E s:=
 uY I hN hi hx r (λs' I' _=>h s' I') hf
def Inv.call'(I:a_)(ho:s'.os=s.os)(u:Un hA_ ch H H' s.heap s'.heap)(hok:Jx X.prog X.w H' s'.heap)(hg:AllBare s'.gens)
  (ji:∀b∈ch,hv_/\b≠X.env.locals/\hw!/\∀p∈X.pn++h1,p.1≠b):Inv X h1 Z H' s':=by
 obtain⟨h',g',d',t',o'⟩:=s';have e:o'=s.os:=ho;subst e;exact I.call (g':=g') (t':=t') (d':=d') u hok hg ji
end
abbrev XK:=Value->Option Addr->Hp->Prop
abbrev St:=List (Option V)
abbrev VK:=V->Hp->Prop
abbrev TE:=St->Hp->VK->Prop
abbrev TT:=St->Hp->q4!->Prop
abbrev TA:=St->Hp->(List V->Hp->Prop)->Prop
structure Qo where
 nx:St->Hp->Prop
 rt:VK
 bk:St->Hp->Prop:=λ_ _=>False
 ct:St->Hp->Prop:=λ_ _=>False
abbrev TS:=Qo->St->Hp->Prop
inductive EP(X:Cx)(h1:r!)(Z:St)(Q:VK)(u:yB!)(s':yM!):Prop
 |mk (v:V) (H':Hp) (I:lm_) (r:aT!) (q:Q v H'):EP X h1 Z Q u s'
inductive TP(X:Cx)(h1:r!)(Z:St)(Q:dd!)(b:Bool)(s':yM!):Prop
 |mk (H':Hp) (I:lm_) (q:Q b H'):TP X h1 Z Q b s'
inductive AP(X:Cx)(h1:r!)(Z:St)(Q:cx!)(us:j_)(s':yM!):Prop
 |mk (vs:o!) (H':Hp) (I:lm_) (r:dZ!) (q:Q vs H'):AP X h1 Z Q us s'
def SP(X:Cx)(h1:r!)(D:Qo)(f:Flow)(s':yM!):Prop:=
 match f with
 |.next=>∃ae H',Inv X h1 ae H' s'/\D.nx ae H'
 |.brk=>∃ae H',Inv X h1 ae H' s'/\D.bk ae H'
 |.cont=>∃ae H',Inv X h1 ae H' s'/\D.ct ae H'
 |.ret u=>∃v ae H',Inv X h1 ae H' s'/\Be v u/\D.rt v H'
def PE(X:Cx)(e:Expr)(t:TE):Prop:=
 ∀(h1:r!) (s:yM!) (Z:St) (H:Hp) (Q:VK),Inv X h1 Z H s->t Z H Q->wpAny e! X.A dZ_ au_ X.xe s
def PT(X:Cx)(e:Expr)(t:TT):Prop:=
 ∀(h1:r!) (s:yM!) (Z:St) (H:Hp) (Q:dd!),Inv X h1 Z H s->t Z H Q->wpAny e! X.A (isTrue e X.env dZ_) hF! X.xe s
def PW(X:Cx)(e:Expr)(t:TT):Prop:=
 ∀(d6:Sem Value) (h1:r!) (s:yM!) (Z:St) (H:Hp) (Q:dd!),Inv X h1 Z H s->t Z H Q->wpAny e! X.A (isTrue e X.env d6) hF! X.xe s
def PW.pt(h:ln_):PT X e t:=h _
def PA(X:Cx)(es:cx_)(t:TA):Prop:=
 ∀(pos:Pos) (h1:r!) (s:yM!) (Z:St) (H:Hp) (Q:cx!),Inv X h1 Z H s->t Z H Q->wpAny e! X.A (spliced q6_) (AP X h1 Z Q) X.xe s
def PS(X:Cx)(st:Stmt)(t:TS):Prop:=
 ∀(h1:r!) (s:yM!) (Z:St) (H:Hp) (D:Qo),Inv X h1 Z H s->t D Z H->wpAny e! X.A (exec st X.env) lo! X.xe s
def Lx(X:Cx)(st:fy_)(t:TS):Prop:=
 ∀(h1:r!) (s:yM!) (Z:St) (H:Hp) (D:Qo),Inv X h1 Z H s->t D Z H->wpAny e! X.A (execs st X.env) lo! X.xe s
def cW(h:wpAny M A t Q E s)(hQ:∀a s,Q a s->Q' a s):wpAny M A t Q' E s:=JS h hQ λ_ _ x=>x
end L2
namespace L2
open PySem PySem.Spec PyProof.Rows
section
variable{X:Cx}
def bin(ha:aH_)(hb:b1!){R:q9_}(I:a_)(h:q8!)
  {f:Value->Value->Sem α}
  (hf:q9!):
  wpAny e! X.A lo_ ra_ X.xe s:=by
 show"!;"
def CW(i:Nat):TE:=λZ H Q=>∃v,Z[i]?=some aG!/\Q v H
nonrec def tC(v:V):TE:=λ_ H Q=>Q v H
def jC(hN:ac!)(hv:cy!)(hd:x!:=by decide)(bz:cy_:=by decide):PE X cz! (CW i):=by
 intro h1 s Z H Q I h;obtain⟨v,e,h⟩:=h;obtain⟨m,hn,hl⟩:=I.loc;obtain⟨u,r,l⟩:=hl i x v hN e hv;have ag:EP X h1 Z Q u s:=lq!;obtain⟨hk,hm⟩|⟨hk,c,hc,cj⟩:=l
 .exact wpAny_Name (wpAny_loadName_local I.ok.kind hk hn hm ag) hd
 .obtain hk|hk:=hk
  .exact wpAny_Name (wpAny_loadName_cell I.ok.kind hk hc cj ag) hd
  .exact wpAny_Name (wpAny_loadName_free I.ok.kind hk hc cj ag bz) hd
def a3y {i j pos}:PE X re_ (tC N!):=λ_ _ _ H _ I h=>wpAny_Constant_int ⟨b2!,H,aT_,I_,h⟩
def c7s {b j pos}:PE X (.Constant lr! j pos) (tC aI!):=λ_ _ _ H _ I h=>Constant_bool ⟨.bl b,H,I,rfl,h⟩
def c3v {j pos}:PE X rf_ (tC .non):=λ_ _ _ H _ I h=>Constant_none ⟨.non,H,I,rfl,h⟩
def c3u {x j pos}:PE X (.Constant b2_ j pos) (tC b2_):=λ_ _ _ H _ I h=>Calls.Constant_str ⟨.str x,H,aT_,I_,h⟩
def Gl(X:Cx)(x:Str):Prop:=X.env.kindOf x=some .globalImplicit
def gV(I:a_)(hg:D_)(hm:rg!)(h:Q u s)
  (hd:x!:=by decide):wpAny e! X.A ri_ Q E s:=
 Calls.Name_function_global I.ok.kind hg (Calls.loadGlobal_global rh! hm h) hd
def iD(I:a_)(hg:D_)(hm:b3!)(hv:rh_)(h:Q u s)
  (hn:b3_:=by decide)(hd:x!:=by decide):wpAny e! X.A ri_ Q E s:=by
 obtain⟨mb,Y,h2⟩:=I.mod.blt;exact Calls.Name_function_global I.ok.kind hg (Calls.loadGlobal_builtin rh! hm (by rw[I.ok.blt];exact Y.keeps I.bk) ((h2 x hn).trans hv) h) hd
def xF(hg:D_)(hm:rg!)(r:aT!)(hd:x!:=by decide):PE X cz! (tC v):=
 λ_ _ _ H _ I h=>gV I hg hm lq! hd
def b8p(hg:D_)(hm:b3!)(hv:rh_)(r:aT!)(hn:b3_:=by decide)(hd:x!:=by decide):PE X cz! (tC v):=
 λ_ _ _ H _ I h=>iD I hg hm hv lq! hn hd
def PC(X:Cx)(op:CmpOp)(a b:Expr)(t:TE):Prop:=
 ∀(h1:r!) (s:yM!) (Z:St) (H:Hp) (Q:VK),Inv X h1 Z H s->t Z H Q->
  wpAny e! X.A lo_ (λv am=>wpAny e! X.A ra! (λu ao=>wpAny e! X.A (compareOp op v u) au_ X.xe ao) X.xe am) X.xe s
def b3p(b:Expr)(h:op≠.In)(h2:op≠.NotIn):behindInMarks op b=false:=by
 have e1:rm!=false:=by cases op<;>first|rfl|exact absurd rfl h
 have e2:rm_=false:=by cases op<;>first|rfl|exact absurd rfl h2
 cases b<;>simp[behindInMarks,e1,e2]
nonrec def tB(t:TE):TT:=λZ H Q=>t Z H λx H1=>∃c,x=.bl c/\Q c H1
def c9h(h:PC X op a b t)(Y:dd_:=by first|exact b3p _ b_ b_|rfl):PT X de! (tB t):=by intro h1 s Z H Q I hw;refine QW (cW ls_ λv s1 Y=>cW Y λu s2 h2=>cW h2 ?_) Y;rintro c s3 ⟨x,H1,I1,r1,q1⟩;obtain⟨d,rfl,q⟩:=q1;cases r1;exact IV ro_
def xE{e:Expr}{t:TE}(h:hH!)(he:hH_:=by intro _;rfl):PT X e (tB t):=by intro h1 s Z H Q I hw;refine isTrue_plain (cW ls_ ?_) (he _);rintro v s1 ⟨x,H1,I1,r1,q1⟩;obtain⟨d,rfl,q⟩:=q1;cases r1;exact IV ro_
variable{rest:List Expr}
def DN(t u:TT):TT:=λZ H Q=>t Z H λc H1=>if c=true then u Z H1 Q else Q false H1
def FU(t u:TT):TT:=λZ H Q=>t Z H λc H1=>if c=true then Q true H1 else u Z H1 Q
def DD(t:TT):TT:=λZ H Q=>t Z H λc H1=>Q (!c) H1
def a6j(ha:fA!):PW X lt_ tA:=by
 intro wh h1 s Z H Q I h;refine isTrue_and rr!;cases c with
 |true=>exact isTrue_and_nil e
 |false=>exact e
def c3l(ha:fA!):PW X rr_ tA:=by
 intro wh h1 s Z H Q I h;refine isTrue_or rr!;cases c with
 |false=>exact isTrue_or_nil e
 |true=>exact e
def b2e(ha:fA!)(hb:PW X d0! xk):PW X d0_ (DN tA xk):=by
 intro wh h1 s Z H Q I h;refine isTrue_and rs_;cases c with
 |true=>exact hb wh h1 s1 Z H1 Q I1 q1
 |false=>exact rt!
def c7q(ha:fA!)(hb:PW X fA_ xk):PW X fB! (FU tA xk):=by
 intro wh h1 s Z H Q I h;refine isTrue_or rs_;cases c with
 |true=>exact rt!
 |false=>exact hb wh h1 s1 Z H1 Q I1 q1
def b2j(ha:fA!):PT X d1! (DD tA):=by intro h1 s Z H Q I h;exact isTrue_not (cW (ha h1 s Z H (λc H1=>Q (!c) H1) I h) λ_ _ ⟨H2,I2,q⟩=>⟨H2,I2,q⟩)
def AH(ta tb:TE):TE:=λZ H Q=>ta Z H λx H1=>∃c,x=.bl c/\if c=true then tb Z H1 Q else Q X! H1
def DC(ta tb:TE):TE:=λZ H Q=>ta Z H λx H1=>∃c,x=.bl c/\if c=true then Q u_ H1 else tb Z H1 Q
def AA(ta:TE):TE:=λZ H Q=>ta Z H λx H1=>∃c,x=.bl c/\Q (.bl (!c)) H1
def b2z {op}{t:TE}(h:PE X a t):PE X lu_ t:=λh1 s Z H Q I hw=>BoolOp_one rt_
def b3e(ha:aH_)(hb:PE X d0! tb):PE X d0_ (AH ta tb):=by
 intro h1 s Z H Q I h;refine BoolOp_and hI!;rintro v s1 ⟨x,H1,I1,r1,q1⟩;obtain⟨c,rfl,q1⟩:=q1;cases r1;refine IV ?_;cases c with
 |true=>exact hb h1 s1 Z H1 Q I1 q1
 |false=>exact⟨hI_,H1,I1,rfl,q1⟩
def c2a(ha:aH_)(hb:PE X fA_ tb):PE X fB! (DC ta tb):=by
 intro h1 s Z H Q I h;refine BoolOp_or hI!;rintro v s1 ⟨x,H1,I1,r1,q1⟩;obtain⟨c,rfl,q1⟩:=q1;cases r1;refine IV ?_;cases c with
 |false=>exact hb h1 s1 Z H1 Q I1 q1
 |true=>exact⟨d1_,H1,I1,rfl,q1⟩
def b3a(ha:aH_):PE X d1! (AA ta):=by intro h1 s Z H Q I h;refine UnaryOp_ hI!;rintro v s1 ⟨x,H1,I1,r1,q1⟩;obtain⟨c,rfl,q1⟩:=q1;cases r1;exact not_of (IV ⟨.bl (!c),H1,I1,rfl,q1⟩)
def FV(t:TT)(ta tb:TE):TE:=λZ H Q=>t Z H λc H1=>if c=true then ta Z H1 Q else tb Z H1 Q
def mQ(hc:PT X c tA)(ha:aH_)(hb:b1!):PE X lv_ (FV tA ta tb):=by
 intro h1 s Z H Q I h;refine wpAny_IfExp rv!;cases d with
 |true=>exact ha h1 s1 Z H1 Q I1 q1
 |false=>exact hb h1 s1 Z H1 Q I1 q1
end
end L2
namespace L2
open PySem PySem.Spec PyProof.Rows
def Ef(KF:zr!)(H:Hp)(a:yz!)(xs:o!):Prop:=
 Rd H a A_\/
  ∃(o:Obj) (its:bi_) (n:Nat),KF.lookup a=some o/\o.cls=.type "list"/\o.dict=none/\o.data=.seq its n/\its.size<=sizeLine/\Aq xs hJ!
def Fg(KF:zr!)(H:Hp)(a:yz!)(xs:o!):Prop:=
 Rd H a aQ_\/
  ∃(o:Obj) (its:bi_) (n:Nat),KF.lookup a=some o/\o.cls=.type "tuple"/\o.data=.seq its n/\its.size<=sizeLine/\Aq xs hJ!
def EL:Value->Option V
 |.none=>some .non
 |.bool b=>some aI!
 |.int i _=>some N!
 |.str x _=>some b2_
 |.bytes b _=>some (.byt b)
 |.float b _=>some (.flt b)
 |.ref a=>some E!
 |.type n=>some (.ty n)
 |_=>none
def Be.abs(r:Be x u):EL u=some x:=by
 cases x with
 |non=>cases r;rfl
 |bl _=>cases r;rfl
 |int _=>obtain⟨t,rfl⟩:=r;rfl
 |str _=>obtain⟨t,rfl⟩:=r;rfl
 |byt _=>obtain⟨t,rfl⟩:=r;rfl
 |flt _=>obtain⟨t,rfl⟩:=r;rfl
 |ref _=>cases r;rfl
 |ty _=>cases r;rfl
def Be.inj(r:Be x u)(q:Be y u):x=y:=IW (r.abs.symm.trans q.abs)
def Aq.inj(h:da_):Aq ys us->xs=ys:=by
 induction h generalizing ys with
 |nil=>intro h;cases h;rfl
 |cons r t ih=>intro h;cases h with|cons r' t'=>rw[r.inj r',ih t']
section
variable{X:Cx}
def Ef.of(h:H a=some A_):Ef KF H a xs:=.inl hJ_
def Fg.of(h:H a=some aQ_):Fg KF H a xs:=.inl hJ_
def Inv.list(I:a_)(h:rw_):∃its:List Value,Aq xs its/\PlainL s.heap a aQ!/\g!<=sizeLine:=by
 obtain h|⟨o,its,n,hk,hc,hd,hs,hz,r⟩:=h
 .obtain⟨z,its,n,r,e⟩:=h.ok I.hok;exact⟨its,r,⟨_,n,e,rfl,rfl,rfl⟩,z⟩
 .refine⟨hJ!,r,⟨o,n,rx_,hc,hd,ry!⟩,?_⟩;have e:=av!;simp only[JE]at e;omega
def Inv.tuple(I:a_)(h:ry_):∃its:List Value,Aq xs its/\IsTup s.heap a aQ!/\g!<=sizeLine:=by
 obtain h|⟨o,its,n,hk,hc,hs,hz,r⟩:=h
 .obtain⟨z,its,r,p⟩:=h.ok I.hok;exact⟨its,r,p,z⟩
 .refine⟨hJ!,r,⟨o,rx_,hc,n,ry!⟩,?_⟩;have e:=av!;simp only[JE]at e;omega
def Inv.list_inj(I:a_)(h:rw_)(h':Ef X.K H a ys):xs=ys:=by
 obtain⟨its,r,⟨o,n,e,_,_,d⟩,_⟩:=I.list h;obtain⟨its',r',⟨o',n',e',_,_,d'⟩,_⟩:=I.list h';rw[e]at e';cases e';rw[d]at d';injection d' with d1 _
 have:its=its':=by simpa using congrArg Array.toList d1
 subst this;exact r.inj r'
def Inv.tuple_inj(I:a_)(h:ry_)(h':Fg X.K H a ys):xs=ys:=by
 obtain⟨its,r,⟨o,e,_,n,d⟩,_⟩:=I.tuple h;obtain⟨its',r',⟨o',e',_,n',d'⟩,_⟩:=I.tuple h';rw[e]at e';cases e';rw[d]at d';injection d' with d1 _
 have:its=its':=by simpa using congrArg Array.toList d1
 subst this;exact r.inj r'
end
abbrev Cx.wish(X:Cx)(E:J_):Cx:={X with xe:=E}
abbrev Cx.nox(X:Cx):Cx:=X.wish λ_ _=>False
def Cx.Ok.wish{X:Cx}(ok:X.Ok)(E:J_):(fB_).Ok:=
 hL!
def Cx.Ok.unwish{X:Cx}{E:J_}(ok:(fB_).Ok):X.Ok:=
 hL!
section
variable{X:Cx}
def Inv.wish(I:a_)(E:J_):Inv fB_ h1 Z H s:=⟨I.ok.wish E,I.os,I.bare,I.base,I.loc,I.cell,I.free,I.freeC,I.pin,I.hok,I.len⟩
def Inv.unwish(I:Inv fB_ h1 Z H s):Inv X h1 Z H s:=⟨I.ok.unwish,I.os,I.bare,I.base,I.loc,I.cell,I.free,I.freeC,I.pin,I.hok,I.len⟩
def SP.unwish{D:Qo}(h:SP fB_ h1 D f s'):SP X h1 D f s':=by
 cases f with
 |next=>obtain⟨ae,H',I,q⟩:=h;exact lx!
 |brk=>obtain⟨ae,H',I,q⟩:=h;exact lx!
 |cont=>obtain⟨ae,H',I,q⟩:=h;exact lx!
 |ret u=>obtain⟨v,ae,H',I,r,q⟩:=h;exact⟨v,ae,H',I.unwish,r,q⟩
def Lx.nox{st:fy_}(h:Lx X.nox st t):Lx X st t:=λh1 s Z H D I hw=>
 JS (h h1 s Z H D (I.wish _) hw) (λ_ _ q=>q.unwish) λ_ _ z=>False.elim z
end
section
variable{X:Cx}{st:Stmt}{rest:List Stmt}
def AC:TS:=λD Z H=>D.nx Z H
def CZ(t u:TS):TS:=λD Z H=>t {D with nx:=u D} Z H
def a6m:Lx X [] AC:=λ_ _ Z H _ I h=>PL rA_
def sF(Y:hM!)(h2:Lx X rest u):Lx X hM_ (CZ t u):=by
 intro h1 s Z H D I h;refine wpAny_execs_cons (cW (Y h1 s Z H {D with nx:=u D} I h) λf s1 q=>?_);cases f with
 |next=>
  obtain⟨ae,H',I',q⟩:=q;exact h2 h1 s1 ae H' D I' q
 |ret v=>exact q
 |brk=>exact q
 |cont=>exact q
def eV(Y:hM!):Lx X [st] t:=by
 intro h1 s Z H D I h;refine wpAny_execs_cons (cW (Y h1 s Z H D I h) λf s1 q=>?_);cases f with
 |next=>exact PL q
 |ret v=>exact q
 |brk=>exact q
 |cont=>exact q
def Inv.quiet(I:a_):interactive X.env=false:=by simp[interactive,I.ok.kind]
def AE(te:TE):TS:=λD Z H=>te Z H λ_ H1=>D.nx Z H1
def qN(he:b4!)(hs:lx_:=by rfl):PS X ly! (AE te):=by intro h1 s Z H D I h;exact wpAny_Expr_any (cW hN! λv s1 ⟨x,H1,I1,r1,q1⟩=>⟨Z,H1,I1,q1⟩) I.quiet hs
def DB(te:TE):TS:=λD Z H=>te Z H D.rt
def b2m(he:b4!):PS X ly_ (DB te):=by intro h1 s Z H D I h;exact wpAny_Return_some (cW hN! λv s1 ⟨x,H1,I1,r1,q1⟩=>⟨x,Z,H1,I1,r1,q1⟩)
def Zy:TS:=λD _ H=>D.rt .non H
def b8g:PS X rC_ Zy:=λ_ _ Z H _ I h=>wpAny_Return_none ⟨.non,Z,H,I,rfl,h⟩
def DH(c:TT)(t u:TS):TS:=λD Z H=>c Z H λb H1=>if b=true then t D Z H1 else u D Z H1
def b2o(hc:PT X c tc)(ha:Lx X a t)(hb:Lx X b u):PS X (.If c a b pos) (DH tc t u):=by
 intro h1 s Z H D I h;refine wpAny_If rv!;cases d with
 |true=>exact ha h1 s1 Z H1 D I1 q1
 |false=>exact hb h1 s1 Z H1 D I1 q1
end
abbrev TG:=V->St->Hp->rF_->Prop
abbrev BO:=List V->St->Hp->rF_->Prop
def PG(X:Cx)(vf:Expr)(t:TG):Prop:=
 ∀(h1:r!) (s:yM!) (Z:St) (H:Hp) (v:V) (u:yB!) (Q:hO_),Inv X h1 Z H s->Be v u->t v Z H Q->
  wpAny e! X.A (assign vf X.env u) rF! X.xe s
def CM(X:Cx)(ts:cx_)(t:BO):Prop:=
 ∀(h1:r!) (s:yM!) (Z:St) (H:Hp) (vs:o!) (us:j_) (Q:hO_),Inv X h1 Z H s->Aq vs us->t vs Z H Q->
  wpAny e! X.A (assignInOrder ((assignEach ts X.env).map X_) us) rF! X.xe s
abbrev BN:=V->V->V->Hp->lz!->Prop
def Ui(X:Cx)(t:BN):Prop:=
 ∀(h1:r!) (s:yM!) (Z:St) (H:Hp) (o i v:V) (ov iv u:yB!) (Q:Hp->Prop),Inv X h1 Z H s->Be o ov->Be i iv->Be v u->t o i v H Q->
  wpAny e! X.A (setItem ov iv u) (λ_ s'=>∃H',Inv X h1 Z H' s'/\Q H') X.xe s
abbrev EQ:=V->V->Hp->VK->Prop
def FN(X:Cx)(op:Operator)(t:EQ):Prop:=
 ∀(h1:r!) (s:yM!) (Z:St) (H:Hp) (x y:V) (v u:yB!) (Q:VK),Inv X h1 Z H s->Be x v->Be y u->t x y H Q->
  wpAny e! X.A (inplaceOp op v u) au_ X.xe s
section
variable{X:Cx}
def Lq(i:Nat):TG:=λv Z H Q=>Q dY! H
def bC(hN:aH!)(hi:ac!)(hx:aS_)(hf:X.fn x=true\/X.env.scope.names.lookup x=some .local:=by first|exact .inl rfl|exact .inr rfl|assumption):PG X cz! d3!:=by intro h1 s Z H v u Q I r h;exact wpAny_assign_Name (mI I hN hi hx r (λs' I'=>⟨_,H,I',h⟩) hf)
def Zc:BO:=λvs Z H Q=>vs=[]/\Q Z H
def Rp(t:TG)(u:BO):BO:=λvs Z H Q=>∃v r,vs=v::r/\t v Z H λae H'=>u r ae H' Q
def a6p:CM X [] Zc:=by intro h1 s Z H vs us Q I r h;obtain⟨e,h⟩:=h;subst e;cases r;exact assignInOrder_nil rA_
def mP(Y:PG X e t)(h2:CM X es u)
  (hs:(assignEach am! X.env).map X_=assign e X.env::(lz_).map X_:=by rfl):CM X am! (Rp t u):=by
 intro h1 s Z H vs us Q I r h;obtain⟨v,vr,e1,h⟩:=h;subst e1;cases r with
 |cons r rr=>
  rw[hs];refine assignInOrder_cons (cW (Y h1 s Z H _ _ _ I r h) ?_);rintro _ s1 ⟨bq,H1,I1,q1⟩;exact h2 h1 s1 bq H1 _ _ Q I1 rr q1
def Zb(KF:zr!)(n:Nat)(t:BO):TG:=λv Z H Q=>∃a xs,v=.ref a/\Fg KF H a xs/\g!=n/\t xs Z H Q
def b2t(hc:aq_)(h:CM X es t)
  (hn:(lz_).length=n:=by rfl)(hst:(lz_).findIdx? c_=none:=by rfl):PG X (.Tuple es k pos) (Zb X.K n t):=by
 intro h1 s Z H v u Q I r hw;obtain⟨a,xs,e1,hq,hl,hw⟩:=hw;subst e1;cases r;obtain⟨its,rv,ht,hz⟩:=I.tuple hq;refine assign_Tuple_tuple a9_ ht (by simp[hn,<-hl,rv.length]) hst λh' hx=>?_;have I1:Inv X h1 Z H {s with heap:=h'}:=I.kept (t':=s.toks) λb o e=>hx b o (IH cw!) e;exact h h1 _ Z H xs _ Q I1 (by simpa using rv) hw
def EG(to ti:TE)(t:BN):TG:=λv Z H Q=>to Z H λo H1=>ti Z H1 λi H2=>t o i v H2 λH3=>Q Z H3
def b2u(ho:PE X o to)(hi:PE X i ti)(hs:Ui X t)
  (ha:∀v,assign rJ_ X.env v=(do
   let ov <-holding [v] cz_
   let iv <-holding [v,ov] rK!
   standAt pos
   holding d3_ lA_
   release d3_ []):=by intro _;rfl):PG X rJ_ (EG to ti t):=by
 intro h1 s Z H v u Q I r h;rw[ha];refine GM (IR rL!);rintro ov s1 ⟨x,H1,I1,r1,q1⟩;refine GM (IR (cW (hi h1 s1 Z H1 _ I1 q1) ?_));rintro iv s2 ⟨y,H2,I2,r2,q2⟩;refine GM (QM (GM (IR (cW (hs h1 s2 Z H2 x y v ov iv u _ I2 r1 r2 r q2) λ_ s3 ⟨H3,I3,q3⟩=>?_))));exact wpAny_release ⟨Z,H3,I3,q3⟩
def Ym(te:TE)(g:TG):TS:=λD Z H=>te Z H λx H1=>g x Z H1 D.nx
def b2p(he:b4!)(hg:hP!)(hs:swapsWithSole [tg] e pos.line X.env=pure false:=by rfl)(hw:swappedStores [tg] e X.env=pure none:=by rfl)
  (Y:(assignEach [tg] X.env).map X_=[assign tg X.env]:=by rfl):PS X (.Assign [tg] e pos) (Ym te g):=by
 intro h1 s Z H D I h;refine wpAny_Assign_stores dg! hs hw;rintro v s1 ⟨x,H1,I1,r1,q1⟩;rw[Y];exact cW (hg h1 s1 Z H1 x v _ I1 r1 q1) λ_ s2 q=>q
def sH(hN:aH!)(hi:ac!)(hx:aS_)(he:b4!)(hs:swapsWith e (some hP_) pos.line X.env=pure false:=by rfl)(hf:X.fn x=true\/X.env.scope.names.lookup x=some .local:=by first|exact .inl rfl|exact .inr rfl|assumption):
  PS X (.Assign rN! e pos) (Ym te d3!):=by
 intro h1 s Z H D I h;refine wpAny_Assign_Name dg! hs;rintro v s1 ⟨y,H1,I1,r1,q1⟩;exact mI I1 hN hi hx r1 (λs2 I2=>⟨_,H1,I2,q1⟩) hf
def DM(i:Nat)(te:TE)(ti:EQ):TS:=λD Z H=>∃x,Z[i]?=some lB_/\te Z H λy H1=>ti x y H1 λz H2=>D.nx (Z.set i (some z)) H2
def c3r(hN:aH!)(hi:ac!)(hx:aS_)(he:b4!)(ho:FN X op ti)(hf:X.fn x=true\/X.env.scope.names.lookup x=some .local:=by first|exact .inl rfl|exact .inr rfl|assumption):
  PS X (.AugAssign hP_ op e pos) (DM i te ti):=by
 intro h1 s Z H D I h;obtain⟨v,e1,h⟩:=h;obtain⟨m,hn,hl⟩:=I.loc;have WM:Ut X.env.scope x:=by obtain k|k:=hx;exact .inl k;exact .inr (.inl k)
 obtain⟨u,r,l⟩:=hl i x v hi e1 WM;refine wpAny_AugAssign_Name ?_;have go:wpAny e! X.A dZ_ (λw ao=>wpAny e! X.A (inplaceOp op u w) (λr de=>wpAny e! X.A (storeName X.env x r) (λ_=>SP X h1 D .next) X.xe de) X.xe ao) X.xe s:=by
  refine cW hN! ?_;rintro w s1 ⟨y,H1,I1,r1,q1⟩;refine cW (ho h1 s1 Z H1 v y u w _ I1 r r1 q1) ?_;rintro z s2 ⟨zv,H2,I2,r2,q2⟩;exact mI I2 hN hi hx r2 (λs3 I3=>⟨_,H2,I3,q2⟩) hf
 obtain⟨hk,hm⟩|⟨hk,c,hc,cj⟩:=l
 .exact wpAny_loadName_local I.ok.kind hk hn hm go
 .obtain hk|hk:=hk
  .exact wpAny_loadName_cell I.ok.kind hk hc cj go
  .obtain k|k:=hx
   .show"!g"
   .show"!g"
def FX(f:lC!):EQ:=λx y H Q=>∃i j,x=.int i/\y=.int j/\Q (.int (f i j)) H
def c5l:FN X .Add (FX λi j=>i+j):=by intro h1 s Z H x y v u Q I r1 r2 h;obtain⟨i,j,e1,e2,q⟩:=h;subst e1;subst e2;obtain⟨t,rfl⟩:=r1;obtain⟨t',rfl⟩:=r2;exact iadd_int hQ!
def Yl(c:TT)(tb:TS):TS:=λD Z H=>∃W:Nat->St->Hp->Prop,(∃m,W m Z H)/\∀m Z H,W m Z H->
 c Z H λb H1=>if b=true then∃N:St->Hp->Prop,(∀ae H',N ae H'->∃m',m'<m/\W m' ae H')/\tb {D with nx:=N,ct:=N,bk:=D.nx} Z H1 else D.nx Z H1
def b2l(hp:d4!)(hc:PT X c tc)(hb:rR!):PS X rQ_ (Yl tc tb):=by
 intro h1 s Z H D I h;obtain⟨W,⟨m0,w0⟩,turn⟩:=h;refine wpAny_While (codeAny_whileLoop (λn s'=>∃ae H',Inv X h1 ae H' s'/\W n ae H') ?_ m0 ⟨Z,H,I,w0⟩);rintro n s1 ⟨bq,H1,I1,w1⟩;refine NM hp (cW (hc h1 s1 bq H1 _ I1 (turn n bq H1 w1)) λb s2 ⟨H2,I2,q2⟩=>?_);cases b with
 |true=>
  obtain⟨N,hN,q2⟩:=q2;rw[A!];refine NM hp (cW (hb h1 s2 bq H2 _ I2 q2) λf s3 q3=>?_);cases f with
  |next=>
   show"!e"
  |cont=>
   show"!e"
  |brk=>exact q3
  |ret v=>exact q3
 |false=>
  rw[HA HV];exact PL ⟨bq,H2,I2,q2⟩
end
structure It where
 go:Nat->Hp->Prop
 yld:Nat->Hp->V->Hp->Prop
 stop:Nat->Hp->Prop
def Eu(X:Cx)(h1:r!)(H:Hp)(b:yz!):Prop:=
 H b=none/\b≠X.env.locals/\b∉X.fs/\hv_/\hw!/\∀p∈X.pn++h1,p.1≠b
def Inv.fpOk(I:a_)(hb:g_<=b)(hn:H' b=none):Eu X h1 H' b:=by
 refine⟨hn,LY (HY I.lt hb),I.nofs hb,.inr (IL I.sz hb),λx c e z=>?_,λp hp z=>?_⟩
 .obtain⟨v,q⟩:=I.cell x c e;exact absurd (HY q.lt rV!) db_
 .exact absurd (HY (HP (lE!).1) rV!) db_
structure Qm(P:yL!)(w:yK!)(KF:zr!)(tg:Expr)(J:It)(fp:aS!)(it:yz!)(tn:hR_):Prop where
 mem:it∈fp
 obj:∀i h,tn i h->∀b∈fp,∃o,h.get? b=some o/\∀v,o.data≠.cell v
 keep:∀i h h',tn i h->(∀b∈fp,∀o,h.get? b=some o->h'.get? b=some o)->tn i h'
 item:∀(X:Cx),X.prog=P->X.w=w->X.K=KF->X.calm=true->∀(i:Nat) (h1:r!) (s:yM!) (Z:St) (H:Hp) (E:J_),Inv X h1 Z H s->lE_->tn i s.heap->J.go i H->
  wpAny v! X.A hS! (λr s1=>∃u,r=some u/\
   wpAny v! X.A rV_ (λ_ s2=>∃x H',Inv X h1 Z H' s2/\Be x u/\J.yld i H x H'/\tn S! s2.heap/\∀b∈fp,H' b=none) E s1) E s
 done:∀(X:Cx),X.prog=P->X.w=w->X.K=KF->X.calm=true->∀(i:Nat) (h1:r!) (s:yM!) (Z:St) (H:Hp) (E:J_),Inv X h1 Z H s->lE_->tn i s.heap->J.stop i H->
  wpAny v! X.A hS! (λr s1=>r=none/\Inv X h1 Z H s1) E s
 self:∀(A:yA!) (i:Nat) (s:yM!) (Q:J_) (E:J_),tn i s.heap->Q b4_ s->wpAny v! A rW_ Q E s
abbrev TI:=St->Hp->(It->Hp->Prop)->Prop
def CL(X:Cx)(h1:r!)(Z:St)(tg:Expr)(R:hS_)(vg:yB!)(s2:yM!):Prop:=
 ∃(it:yz!) (fp:aS!) (tn:hR_) (J:It) (H':Hp),vg=.ref it/\Inv X h1 Z H' s2/\Qm X.prog X.w X.K tg J fp it tn/\tn 0 s2.heap/\(∀b∈fp,Eu X h1 H' b)/\R J H'
def PI(X:Cx)(tg iter:Expr)(wi:TI):Prop:=
 ∀(h1:r!) (s:yM!) (Z:St) (H:Hp) (R:hS_),Inv X h1 Z H s->wi Z H R->
  wpAny e! X.A (eval iter X.env) (λv s1=>wpAny e! X.A (pyIter v) rX! X.xe s1) X.xe s
def b5m(ho:s.heap.get? it=some o)(hc:o.cls=.type n)(hd:o.data=.fields vs)
  (hn:(rX_).contains n=false)(hQ:Q () s):wpAny M A rV_ Q E s:=by
 unfold letOwnedTupleGo;cases tg<;>first
  |exact GP hQ
  |(cases u<;>first
    |exact GP hQ
    |(refine GM (wpAny_load ho ?_);rw[hc,hd];show wpAny M A (if((rX_).contains n&&vs[0]?==some (rawInt _))=true then _ else _) Q E s;rw[HA (by intro h;rw[hn,Bool.false_and]at h;cases h)];exact GP hQ))
def ES(KF:zr!)(a:yz!):It:=
 ⟨λi H=>∃xs x,Ef KF H a xs/\xs[i]?=some x,λi H x H'=>H'=H/\∀xs,Ef KF H a xs->xs[i]?=some x,λi H=>∃xs,Ef KF H a xs/\g!<=i⟩
def GK(KF:zr!)(a:yz!):It:=
 ⟨λi H=>∃xs x,Fg KF H a xs/\xs[i]?=some x,λi H x H'=>H'=H/\∀xs,Fg KF H a xs->xs[i]?=some x,λi H=>∃xs,Fg KF H a xs/\g!<=i⟩
def BS(lo:Int)(n:Nat):It:=⟨λi _=>i<n,λi H x H'=>H'=H/\x=.int (lo+i),λi _=>n<=i⟩
def a8s(a it:yz!):Qm P w KF tg (ES KF a) [it] it (λi h=>h.IsListIter it a i) where
 mem:=by simp
 obj:=λi h st b hb=>by
  have e:b=it:=by simpa using hb
  subst e;show"#$"
 keep:=λi h h' st k=>st.at λo e=>k it d_ o e
 item:=by
  show"!3";obtain⟨xs,x,hq,hx⟩:=hg;obtain⟨its,rv,p,hz⟩:=I.list hq;obtain⟨u,hu,ru⟩:=rv.get hx;show"!5";refine wpAny_pyNext_list_item st p.isList (x:=u) rY_ λh' ac sb=>?_;have I1:Inv X h1 Z H {s with heap:=h'}:=I.turned (t':=s.toks) rZ_ f0 f1 f3 f4 f5;obtain⟨o,e,c,d⟩:=id ac;exact⟨u,rfl,b5m (s:=lH!) e c d b_ ⟨x,H,I1,ru,⟨rfl,λys hy=>by rw[I.list_inj hy hq];exact hx⟩,ac,lH_⟩⟩
 done:=by
  show"!3";obtain⟨xs,hq,hx⟩:=hg;obtain⟨its,rv,p,hz⟩:=I.list hq;show"!5";have hl:=d4_;exact wpAny_pyNext_list_end a9_ st p.isList cA! λh' eb=>lI!
 self:=λ_ _ _ _ _ st h=>wpAny_pyIter_listiter st h
def a3i(it:yz!)(lo:Int)(n:Nat):Qm P w KF tg (BS lo n) [it] it (λi h=>IsRangeIter h it (lo+(i:Nat)*1) ((n:Int) - (i:Nat)) 1) where
 mem:=by simp
 obj:=λi h st b hb=>by
  have e:b=it:=by simpa using hb
  subst e;exact⟨_,st,λv z=>by
   have z':Data.fields _=Data.cell v:=z;cases z'⟩
 keep:=λi h h' st k=>k it d_ _ st
 item:=by
  show"!3";show"!5";have W:=Walks.range (prog:=X.prog) (w:=X.w) a9_ it lo 1 n;refine W.item i s _ _ hg st λv h' tk hv ac kk=>?_;obtain⟨t,rfl⟩:=hv;show"!_";refine⟨_,rfl,b5m (s:={s with heap:=h',toks:=tk}) (n:="range_iterator") ac rfl rfl b_ ⟨.int (lo+i),H,I1,⟨t,?_⟩,aI_,ac,lH_⟩⟩;rw[Int.mul_one]
 done:=by
  show"!3";show"!5";exact wpAny_pyNext_range_end a9_ st (by have:n<=i:=hg;omega) λh' eb=>lI!
 self:=λ_ _ _ _ _ st h=>wpAny_pyIter_rangeiter st h
end L2
namespace L2
open PySem PySem.Spec PyProof.Rows
section
variable{X:Cx}
def BG(KF:zr!)(tl:TE):TI:=λZ H R=>tl Z H λx H1=>∃a,x=.ref a/\(∃xs,Ef KF H1 a xs)/\R (ES KF a) H1
def EF(KF:zr!)(tl:TE):TI:=λZ H R=>tl Z H λx H1=>∃a,x=.ref a/\(∃xs,Fg KF H1 a xs)/\R (GK KF a) H1
def a6o(hl:PE X l tl):PI X tg l (BG X.K tl):=by
 intro h1 s Z H R I h;refine cW r2_ ?_;rintro v s1 ⟨x,H1,I1,r1,q1⟩;obtain⟨a,e,⟨xs,hq⟩,q⟩:=q1;subst e;cases r1;obtain⟨its,rv,p,hz⟩:=I1.list hq;refine wpAny_pyIter_list p.isList ?_;refine⟨x_,[x_],_,_,H1,rfl,lJ_,a8s a _,d5!,bD_,q⟩;have e:b=x_:=by simpa using hb
 show"!k"
def a0t{lo hi:Int}(I:a_)(Y:-fE_<=lo)(h2:lo<2 ^ 62)(h3:-fE_<=hi)(h4:hi<2 ^ 62)
  (q:R (BS lo (lK_).toNat) H):wpAny e! X.A (pyIter ba!) rX! E {s with heap:=s.heap.push {cls:=.type "range",data:=.fields #[.int lo t,.int hi u,.int 1 v]},toks:=tk}:=by
 refine wpAny_pyIter_range (IsRange.new ..) (small_one Y h2 h3 h4) ?_;have I1:Inv X h1 Z H {s with heap:=s.heap.push {cls:=.type "range",data:=.fields #[.int lo t,.int hi u,.int 1 v]},toks:=tk}:=I.kept λb o e=>GQ _ e;refine⟨(lL!).objs.size,[(lL!).objs.size],_,_,H,rfl,
  I1.kept (t':=tk) λb o e=>GQ _ e,a3i _ lo (lK_).toNat,?_,λb hb=>?_,q⟩
 .have e1:lo+d5_*1=lo:=by simp
  have e2:r4_ - d5_=Builtin.Range.rangeSize lo hi 1:=by rw[rangeSize_one];split<;>omega
  show IsRangeIter _ _ (lo+d5_*1) (r4_ - d5_) 1;rw[e1,e2];exact HM _ rfl
 .have e:b=(lL!).objs.size:=by simpa using hb
  show"!k"
def BF(ta:TA):TI:=λZ H R=>ta Z H λvs H1=>∃j:Int,vs=[d6!]/\-fE_<=j/\j<2 ^ 62/\R (BS 0 j.toNat) H1
def BE(ta:TA):TI:=λZ H R=>ta Z H λvs H1=>∃i j:Int,vs=lL_/\(-fE_<=i/\i<2 ^ 62/\-fE_<=j/\j<2 ^ 62)/\R (BS i (j - i).toNat) H1
def a9f(hg:hV!)(hm:hV_)(ha:PA X [a] ta)(hs:r6!:=by rfl):PI X tg r7! (BF ta):=by
 intro h1 s Z H R I h;refine Call_ (iD I hg hm boot_range (JP lM_ hs rfl));rintro us s1 ⟨vs,H1,I1,r1,q1⟩;obtain⟨j,e,q1,q2,q⟩:=q1;subst e;cases r1 with
 |cons r rr=>
  cases rr;obtain⟨t,rfl⟩:=r;exact call_range_1 (a0t I1 a! a! q1 q2 (by simpa using q))
def a9e(hg:hV!)(hm:hV_)(ha:PA X aJ! ta)(hs:r9_:=by rfl)(bj:sa_:=by rfl):
  PI X tg sb! (BE ta):=by
 intro h1 s Z H R I h;refine Call_ (iD I hg hm boot_range (JP lM_ (by rw[hs,bj]) (by rw[bj];rfl)));rintro us s1 ⟨vs,H1,I1,r1,q1⟩;obtain⟨i,j,e,⟨q1,q2,q3,q4⟩,q⟩:=q1;subst e;cases r1 with
 |cons r rr=>
  cases rr with
  |cons r' rr=>
   cases rr;obtain⟨t,rfl⟩:=r;obtain⟨t',rfl⟩:=r';exact call_range_2 (a0t I1 q1 q2 q3 q4 q)
def DJ(wi:TI)(g:TG)(tb:TS):TS:=λD Z H=>wi Z H λJ H1=>∃W:Nat->Nat->St->Hp->Prop,(∃m,W 0 m Z H1)/\∀i m Z H,W i m Z H->
 (J.stop i H/\D.nx Z H)\/(J.go i H/\∃N:St->Hp->Prop,(∀ae H',N ae H'->∃m',m'<m/\W S! m' ae H')/\∀x H',J.yld i H x H'->g x Z H' λcm H2=>tb {D with nx:=N,ct:=N,bk:=D.nx} cm H2)
def Od(fp:aS!)(h:Heap):List dW_:=fp.filterMap λb=>(h.get? b).map λo=>d6_
def iC(hb:b∈fp)(e:qu_):d6_∈Od fp h:=MX.mpr ⟨b,hb,sc!⟩
def a9s(hp:p∈Od fp h):p.1∈fp/\h.get? p.1=some p.2:=by
 obtain⟨b,hb,e⟩:=MX.mp hp;cases q:h.get? b with
 |none=>rw[q]at e;cases e
 |some o=>
  rw[q]at e;have e':d6_=p:=IW e;subst e';exact⟨hb,q⟩
def Inv.pinned(I:a_)(hf:∀b∈fp,Eu X h1 H b)(ho:∀b∈fp,∃o,s.heap.get? b=some o/\∀v,o.data≠.cell v):Inv X (h1++Od fp s.heap) Z H s:=
 I.pins_of λp hp=>(GS.mp hp).elim (λz=>I.pin p hW_) λz=>by
  obtain⟨hb,e⟩:=a9s z;obtain⟨f0,f1,f2,_⟩:=hf p.1 hb;obtain⟨o,e',d⟩:=ho p.1 hb;rw[e]at e';cases e';exact⟨e,f0,f1,f2,d⟩
def Inv.unpinned(I:Inv X (h1++pl) Z H s):Inv X h1 Z H s:=I.pins_of λp hp=>I.pin p (GV _ hX!)
def a3w(hp:d4!)(hc:aq_)(hi:lN!)(hg:hP!)(hb:rR!)
  (hs:b5_:=by intro _;rfl):PS X lN_ (DJ wi g tb):=by
 intro h1 s Z H D I h;refine wpAny_For (cW (hi h1 s Z H _ I h) λv s1 Y=>cW Y λvg s2 h2=>?_) hs;obtain⟨it,fp,tn,J,H2,e,I2,T,bh,f2,W,⟨m0,w0⟩,turn⟩:=h2;subst e;have nr:∀{H':Hp},fF!->∀b∈fp,Eu X h1 H' b:=λhn b hb=>⟨hn b hb,(dh_).2⟩;refine codeAny_forLoop_any (λn s'=>∃i ae H',Inv X h1 ae H' s'/\tn i s'.heap/\fF!/\W i n ae H') ?_ m0 ⟨0,Z,H2,I2,bh,se!,w0⟩;rintro n s3 ⟨i,f7,H3,I3,vh,qo,w3⟩;obtain⟨stop,qn⟩|⟨go,N,hN,step⟩:=turn i n f7 H3 w3
 .refine NM hp (cW (T.done X rfl rfl rfl hc i h1 s3 f7 H3 X.xe I3 (nr qo) vh stop) λr s4 ⟨hr,I4⟩=>?_);subst hr;exact PL ⟨f7,H3,I4,qn⟩
 .refine NM hp (cW (T.item X rfl rfl rfl hc i h1 s3 f7 H3 X.xe I3 (nr qo) vh go) λr s4 ⟨u,hr,h4⟩=>?_);subst hr;refine NM hp (cW h4 ?_);rintro _ s5 ⟨x,H5,I5,r5,y5,ny,xm⟩;have xo:=I5.pinned (nr xm) se_;refine NM hp (cW (hg _ s5 f7 H5 x u _ xo r5 sf!) ?_);rintro _ s6 ⟨lp,H6,I6,q6⟩;refine NM hp (cW (hb _ s6 lp H6 _ I6 q6) λf s7 q7=>?_);have again:∀{io:St} {H7:Hp},Inv X (h1++Od fp s5.heap) io H7 s7->N io H7->∃m,m<n/\∃i ae H',Inv X h1 ae H' s7/\tn i s7.heap/\fF!/\W i m ae H':=λ{io H7} I7 n7=>by
   obtain⟨m',hm,w7⟩:=hN io H7 n7;refine⟨m',hm,i+1,io,H7,hX_,T.keep _ _ _ ny λb hb o e=>(sg!).1,bD_,w7⟩;obtain⟨o,e,d⟩:=T.obj _ _ ny b hb;exact(sg!).2.1
  cases f with
  |next=>obtain⟨io,H7,I7,n7⟩:=q7;exact again I7 n7
  |cont=>obtain⟨io,H7,I7,n7⟩:=q7;exact again I7 n7
  |brk=>obtain⟨io,H7,I7,q7⟩:=q7;exact⟨io,H7,hX_,q7⟩
  |ret v=>obtain⟨x7,io,H7,I7,r7,q7⟩:=q7;exact⟨x7,io,H7,hX_,r7,q7⟩
end
end L2
namespace L2
open PySem PySem.Spec PyProof.Rows
abbrev R2:=V->V->Hp->VK->Prop
def Fw(X:Cx)(f:fG!)(r:R2):Prop:=
 ∀(h1:r!) (s:yM!) (Z:St) (H:Hp) (x y:V) (v u:yB!) (Q:VK),Inv X h1 Z H s->Be x v->Be y u->r x y H Q->
  wpAny e! X.A (f v u) au_ X.xe s
def EN(X:Cx)(f:Value->Sem Value)(r:lO_):Prop:=
 ∀(h1:r!) (s:yM!) (Z:St) (H:Hp) (x:V) (v:yB!) (Q:VK),Inv X h1 Z H s->Be x v->r x H Q->
  wpAny e! X.A (f v) au_ X.xe s
def Hb(X:Cx)(f:yB!)(r:d7!):Prop:=
 ∀(h1:r!) (s:yM!) (Z:St) (H:Hp) (xs:o!) (us:j_) (Q:VK),Inv X h1 Z H s->Aq xs us->r xs H Q->
  wpAny e! X.A (call f us) au_ X.xe s
def EO(X:Cx)(r:V->Hp->q4!->Prop):Prop:=
 ∀(h1:r!) (s:yM!) (Z:St) (H:Hp) (x:V) (v:yB!) (Q:dd!),Inv X h1 Z H s->Be x v->r x H Q->
  wpAny e! X.A lt! hF! X.xe s
def Zm(r:R2)(ta tb:TE):TE:=λZ H Q=>ta Z H λx H1=>tb Z H1 λy H2=>r x y H2 Q
def FS(r:lO_)(ta:TE):TE:=λZ H Q=>ta Z H λx H1=>r x H1 Q
nonrec def rI(C:sh_)(g:si!):R2:=λx y H Q=>∃i j,x=.int i/\y=.int j/\C i j/\Q ba_ H
def Pz(g:si!):R2:=λx y H Q=>∃i j,x=.int i/\y=.int j/\Q ba_ H
nonrec def rU(g:Int->V):V->Hp->VK->Prop:=λx H Q=>∃i,x=.int i/\Q (g i) H
section
variable{X:Cx}
def c6r(ha:aH_)(hb:b1!){h1:r!}{Z:St}{H:Hp}{R:q9_}(I:a_)
  (h:q8!){Q:J_}{f:fG!}
  (hf:q9!):
  wpAny e! X.A lo_ ra_ X.xe s:=by
 show"!;"
def a0y{op:Operator}{r:R2}(ho:lP_)(ha:aH_)(hb:b1!):PE X lQ! hY!:=by intro h1 s Z H Q I h;exact wpAny_BinOp sj!
def b2w{op:UnaryOp}{r:lO_}(ho:EN X (unaryOp op) r)(ha:aH_):PE X (.UnaryOp op a pos) (FS r ta):=by intro h1 s Z H Q I h;exact UnaryOp_ (cW b1_ λv s1 ⟨x,H1,I1,r1,q1⟩=>ho h1 s1 Z H1 x v Q I1 r1 q1)
def opI{f:fG!}{C:sh_}{g:lC!}
  (rule:∀(i j:Int) (t u:Tok) (s:yM!) (Q:J_) (E:J_),C i j->Q sl! {s with toks:=s.toks+1}->wpAny e! X.A lR_ Q E s):
  Fw X f (rI C λi j=>.int ba_):=by
 intro h1 s Z H x y v u Q I rx ry h;obtain⟨i,j,rfl,rfl,hc,q⟩:=h;show"!A";obtain⟨t',rfl⟩:=ry;exact rule i j t t' s _ _ hc sn!
def c7v{f:fG!}{g:lC!}
  (rule:∀(i j:Int) (t u:Tok) (s:yM!) (Q:J_) (E:J_),Q sl! {s with toks:=s.toks+1}->wpAny e! X.A lR_ Q E s):
  Fw X f (Pz λi j=>.int ba_):=by
 show"!J";exact rule i j t t' s _ _ sn!
def b8t{f:fG!}{g:sn_}
  (rule:∀(i j:Int) (t u:Tok) (s:yM!) (Q:J_) (E:J_),Q (.bool ba_) s->wpAny e! X.A lR_ Q E s):
  Fw X f (Pz λi j=>.bl ba_):=by
 show"!J";exact rule i j t t' s _ _ ⟨.bl ba_,H,I,rfl,q⟩
def Zj(i j:Int):Prop:=0<j/\j<1073741824
def Zi(i j:Int):Prop:=0<=j/\j<=1000000/\cB!<2 ^ 64
def We(i j:Int):Prop:=(-hY_<i/\i<2 ^ 64)\/(-hY_<j/\j<2 ^ 64)
def We.ok{i j:Int}(h:We i j):IntMulOk i j:=by
 obtain⟨Y,h2⟩|⟨Y,h2⟩:=h
 .exact .of_left so!
 .exact .of_right so!
def c4d:Fw X d7_ (Pz λi j=>.int (i+j)):=c7v λ_ _ _ _ _ _ _ q=>add_int q
def a3z:Fw X (binaryOp .Sub) so_:=c7v λ_ _ _ _ _ _ _ q=>sub_int q
def jZ:Fw X sp! lS_:=opI λ_ _ _ _ _ _ _ hc q=>mul_int q hc.ok
def gD:Fw X (binaryOp .FloorDiv) lT_:=opI λi j _ _ _ _ _ hc q=>by
 have Y:(0:Int)<j:=hc.1;have h2:j<1073741824:=hc.2;exact floordiv_int a! (by rw[Int.fdiv_eq_ediv_of_nonneg i a!];exact q) (.inl (PyProof.noPylong_small a!))
def cM:Fw X (binaryOp .Mod) lU!:=opI λi j _ _ _ _ _ hc q=>by
 have Y:(0:Int)<j:=hc;exact mod_int' a! (by rw[Int.fmod_eq_emod_of_nonneg i a!];exact q)
def c3z:Fw X (binaryOp .Pow) lV_:=opI λ_ _ _ _ _ _ _ hc q=>pow_int_small hc.1 hc.2.1 hc.2.2 q
def unI{g:cB_}
  (rule:∀(i:Int) (t:Tok) (s:yM!) (Q:J_) (E:J_),Q (.int (g i) s.toks) {s with toks:=s.toks+1}->wpAny e! X.A (f da!) Q E s):
  EN X f (rU λi=>.int (g i)):=by
 intro h1 s Z H x v Q I rx h;obtain⟨i,rfl,q⟩:=h;show"!A";exact rule i t s _ _ ⟨.int (g i),H,aT_,I_,q⟩
def a3h:EN X (unaryOp .USub) (rU λi=>.int (-i)):=unI λ_ _ _ _ _ q=>neg_int q
end
def DP:V->V->Bool
 |.non,.non=>true|.non,.int _=>true|.int _,.non=>true|.non,.bl _=>true|.bl _,.non=>true|.non,.str _=>true|.str _,.non=>true
 |.int _,.int _=>true|.bl _,.bl _=>true|.str _,.str _=>true|.byt _,.byt _=>true
 |.int _,.str _=>true|.str _,.int _=>true|.bl _,.str _=>true|.str _,.bl _=>true
 |_,_=>false
def FD:R2:=λx y H Q=>DP x y=true/\Q (.bl (!decide d8!)) H
def a7y:decide (V.int i=V.int j)=(i==j):=by rw[JH];simp
def c6c:decide (V.bl i=V.bl j)=(i==j):=by rw[JH];simp
def a7x:decide (V.str i=V.str j)=(i==j):=by rw[JH];simp
def c0v:decide (V.byt i=V.byt j)=(i.toList==j.toList):=by rw[JH];cases i;cases j;simp
section
variable{X:Cx}
def eH(I:a_)(q:Q (.bl k) H)(e:k=k'):EP X h1 Z Q (.bool k') s:=by subst e;exact⟨.bl k,H,I,rfl,q⟩
def vN:Fw X sr! FD:=by
 intro h1 s Z H x y v u Q I rx ry h;obtain⟨hs,q⟩:=h;cases x with
 |non=>
  cases rx;cases y with
  |non=>cases ry;exact PySem.EqNone.ne_none_none bl_
  |bl j=>cases ry;exact PySem.EqNone.ne_none_bool bl_
  |int j=>obtain⟨t',rfl⟩:=ry;exact PySem.EqNone.ne_none_int bl_
  |str j=>obtain⟨t',rfl⟩:=ry;exact PySem.EqNone.ne_none_str bl_
  |_=>exact absurd d8_ HV
 |bl i=>
  cases rx;cases y with
  |non=>cases ry;exact PySem.EqNone.ne_bool_none bl_
  |bl j=>cases ry;exact ne_bool (eH I q (congrArg not c6c))
  |str j=>obtain⟨t',rfl⟩:=ry;exact PySem.EqMixed.ne_bool_str bl_
  |_=>exact absurd d8_ HV
 |int i=>
  obtain⟨t,rfl⟩:=rx;cases y with
  |non=>cases ry;exact PySem.EqNone.ne_int_none bl_
  |int j=>obtain⟨t',rfl⟩:=ry;exact ne_int (eH I q (congrArg not a7y))
  |str j=>obtain⟨t',rfl⟩:=ry;exact PySem.EqMixed.ne_int_str bl_
  |_=>exact absurd d8_ HV
 |str i=>
  obtain⟨t,rfl⟩:=rx;cases y with
  |non=>cases ry;exact PySem.EqNone.ne_str_none bl_
  |bl j=>cases ry;exact PySem.EqMixed.ne_str_bool bl_
  |int j=>obtain⟨t',rfl⟩:=ry;exact PySem.EqMixed.ne_str_int bl_
  |str j=>obtain⟨t',rfl⟩:=ry;exact ne_str (eH I q (congrArg not a7x))
  |_=>exact absurd d8_ HV
 |byt i=>
  obtain⟨t,rfl⟩:=rx;cases y with
  |byt j=>obtain⟨t',rfl⟩:=ry;exact W.ne_bytes (eH I q (congrArg not c0v))
  |_=>exact absurd d8_ HV
 |_=>cases y<;>exact absurd d8_ HV
def sJ:Fw X (compareOp .Lt) lY!:=b8t λ_ _ _ _ _ _ _ q=>lt_int q
def c7t:Fw X lY_ (Pz λi j=>.bl hZ!):=b8t λ_ _ _ _ _ _ _ q=>le_int q
def a6u:Fw X (compareOp .Gt) lZ_:=b8t λ_ _ _ _ _ _ _ q=>gt_int q
def c2b:Fw X (compareOp .GtE) l0!:=b8t λ_ _ _ _ _ _ _ q=>ge_int q
def xH:Fw X (compareOp .Is) su_:=by
 intro h1 s Z H x y v u Q I rx ry h;obtain⟨rfl,q⟩:=h;cases ry;refine is_none_gen (eH I q ?_);cases x<;>first
  |(cases rx;rfl)
  |(obtain⟨t,rfl⟩:=rx;rfl)
def qP:Fw X (compareOp .IsNot) sv!:=by
 intro h1 s Z H x y v u Q I rx ry h;obtain⟨rfl,q⟩:=h;cases ry;refine isnot_none_gen (eH I q ?_);cases x<;>first
  |(cases rx;rfl)
  |(obtain⟨t,rfl⟩:=rx;rfl)
def Fw.or(h:Fw X f r)(h':Fw X f r'):Fw X f sv_:=by
 intro h1 s Z H x y v u Q I rx ry q;obtain q|q:=q
 .exact h h1 s Z H x y v u Q I rx ry q
 .exact h' h1 s Z H x y v u Q I rx ry q
def aQ(b:Expr)(h:op≠.In:=by decide)(h2:op≠.NotIn:=by decide):behindInMarks op b=false:=by
 have e1:rm!=false:=by cases op<;>first|rfl|exact absurd rfl h
 have e2:rm_=false:=by cases op<;>first|rfl|exact absurd rfl h2
 cases b<;>simp[behindInMarks,e1,e2]
def a6r(ho:bE!)(ha:aH_)(hb:b1!)(hm:dd_):PE X de! hY!:=by intro h1 s Z H Q I h;exact wpAny_Compare1 sj! hm
def Xu(t:TE):TT:=λZ H Q=>t Z H λx H'=>∃k,x=.bl k/\Q k H'
def a6l(ho:bE!)(ha:aH_)(hb:b1!)(hm:dd_):PT X de! (Xu hY!):=by
 intro h1 s Z H Q I h;refine QW (cW b1_ λv s1 ⟨x,H1,I1,r1,q1⟩=>cW fz_ λu s2 ⟨y,H2,I2,r2,q2⟩=>
  cW l1_ λc s3 ⟨z,H3,I3,r3,k,e,q3⟩=>?_) hm
 subst e;cases r3;exact IV ⟨H3,I3,q3⟩
def Uy(r r':R2)(ta tb tc:TE):TE:=λZ H Q=>ta Z H λx H1=>tb Z H1 λy H2=>r x y H2 λz H3=>∃k,z=.bl k/\
 (if k=true then tc Z H3 λw' H4=>r' y w' H4 Q else Q X! H3)
def b3d(ho:bE!)(fg:hZ_)(ha:aH_)(hb:b1!)(hc:PE X c tc)
  (hm:h0!:=by with_unfolding_all rfl):PE X h0_ sx!:=by
 intro h1 s Z H Q I h;refine Compare_chain (cW b1_ λv s1 ⟨x,H1,I1,r1,q1⟩=>chain_link (cW fz_ λu s2 ⟨y,H2,I2,r2,q2⟩=>
  cW l1_ λd s3 ⟨z,H3,I3,r3,k,e,q3⟩=>?_)) hm
 subst e;cases r3;refine IV ?_;cases k with
 |false=>exact ite_ff ⟨hI_,H3,I3,rfl,q3⟩
 |true=>exact ite_tt (chain_last (cW sy! λw' s4 ⟨z',H4,I4,r4,q4⟩=>fg h1 s4 Z H4 y z' u w' Q I4 r2 r4 q4))
def b2k(ho:bE!)(fg:hZ_)(ha:aH_)(hb:b1!)(hc:PE X c tc)
  (hm:h0!:=by with_unfolding_all rfl):PT X h0_ (Xu sx!):=by
 intro h1 s Z H Q I h;refine isTrue_chain (cW b1_ λv s1 ⟨x,H1,I1,r1,q1⟩=>test_link (cW fz_ λu s2 ⟨y,H2,I2,r2,q2⟩=>
  cW l1_ λd s3 ⟨z,H3,I3,r3,k,e,q3⟩=>?_)) hm
 subst e;cases r3;refine IV ?_;cases k with
 |false=>
  obtain⟨k',e',q'⟩:=q3;cases e';exact ite_ff ⟨H3,I3,q'⟩
 |true=>
  refine ite_tt (test_last (cW sy! λw' s4 ⟨z',H4,I4,r4,q4⟩=>cW (fg h1 s4 Z H4 y z' u w' _ I4 r2 r4 q4) ?_));rintro d' s5 ⟨z2,H5,I5,r5,k2,e2,q5⟩;subst e2;cases r5;exact IV ⟨H5,I5,q5⟩
def BM(KF:zr!)(x:V)(H:Hp)(k:Bool):Prop:=
 match x with
 |.non=>k=false
 |.bl b=>k=b
 |.int i=>k=fI_
 |.str y=>b6!<=sizeLine/\k=((b6!:Int) != 0)
 |.byt y=>y.size<=sizeLine/\k=((y.size:Int) != 0)
 |.ref p=>(∃xs,Ef KF H p xs/\k=! di_)\/(∃xs,Fg KF H p xs/\k=! di_)\/∃σ,H p=some dj!/\k=! l2_
 |_=>False
def a5a(r:KV σ vs):(!vs.isEmpty)=! l2_:=by cases r<;>rfl
def tK(r:Aq xs its):(! l3!)=! di_:=by cases r<;>simp
def pB:(sizeLine:Nat)<2 ^ 63:=by rw[JI];decide
def c2y:EO X (λx H Q=>∃k,BM X.K x H k/\Q k H):=by
 intro h1 s Z H x v Q I rx h;obtain⟨k,e,q⟩:=h;have hl:=pB;have hs:sizeLine=16777216:=JI;cases x with
 |non=>
  cases rx;have e':k=false:=e;subst e';exact truthy_none l3_
 |bl b=>
  cases rx;have e':k=b:=e;subst e';exact IV l3_
 |int i=>
  show"!A";have e':k=fI_:=e;subst e';exact PySem.P.truthy_int l3_
 |str y=>
  show"!A";obtain⟨hy,e'⟩:b6!<=sizeLine/\k=((b6!:Int) != 0):=e;subst e';exact PySem.P.truthy_str a! sB!
 |byt y=>
  show"!A";obtain⟨hy,e'⟩:y.size<=sizeLine/\k=((y.size:Int) != 0):=e;subst e';exact W.truthy_bytes a! sB!
 |ref p=>
  cases rx;have e':(∃xs,Ef X.K H p xs/\k=! di_)\/(∃xs,Fg X.K H p xs/\k=! di_)\/∃σ,H p=some dj!/\k=! l2_:=e;obtain⟨xs,hx,e'⟩|⟨xs,hx,e'⟩|⟨σ,hx,e'⟩:=e'
  .subst e';obtain⟨its,r,pl,hz⟩:=I.list hx;have ay:=av!;exact wpAny_truthy_list pl.isList h1! sB_
  .subst e';obtain⟨its,r,pl,hz⟩:=I.tuple hx;have ay:=av!;exact truthy_tuple pl h1! sB_
  .subst e';obtain⟨hz,hS,vs,r,m⟩:ap!<=sizeLine/\(p==sysModules)=false/\∃vs,KV σ vs/\s.heap.DictOf (mixKind X.prog X.w) p vs:=I.hok p _ hx;have ay:ap!=aU_:=MY r;exact wpAny_truthy_dict hS m a! ⟨H,aT_,by rw[a5a r];exact q⟩
 |_=>exact(sC_).elim
def b2h(ha:aH_)(he:∀d6,isTrue a X.env d6=(do let v <-d6;standAt a.pos;holding [v] lt!)):
  PT X a (λZ H Q=>ta Z H λx H'=>∃k,BM X.K x H' k/\Q k H'):=by
 show"!C";exact isTrue_plain (cW b1_ λv s1 ⟨x,H1,I1,r1,q1⟩=>c2y h1 s1 Z H1 x v Q I1 r1 q1) (he _)
def a4c:Fw X d7_ (λx y H Q=>∃i j,x=.str i/\y=.str j/\i.length+j.length<=sizeLine/\Q sE! H):=by intro h1 s Z H x y v u Q I rx ry h;obtain⟨i,j,rfl,rfl,hz,q⟩:=h;obtain⟨t,rfl⟩:=rx;obtain⟨t',rfl⟩:=ry;exact add_str (λt' tk=>⟨.str (i++j),H,aT_,I_,q⟩) hz
def mH(r:Aq [x] us):∃u,us=[u]/\Be x u:=by
 cases r with
 |cons r1 r2=>cases r2;exact⟨_,rfl,r1⟩
def uW(r:Aq [x,y] us):∃u w',us=[u,w']/\Be x u/\Be y w':=by
 cases r with
 |cons r1 r2=>
  cases r2 with
  |cons r3 r4=>cases r4;exact⟨_,_,rfl,r1,r3⟩
def b7a:Hb X sF_ sG!:=by intro h1 s Z H xs us Q I r h;obtain⟨i,rfl,q⟩:=h;obtain⟨u,rfl,t,rfl⟩:=mH r;exact call_abs_int λu tk=>⟨.int h2!,H,aT_,I_,q⟩
def b6x:Hb X sG_ sH_:=by intro h1 s Z H xs us Q I r h;obtain⟨x,rfl,hz,q⟩:=h;obtain⟨u,rfl,t,rfl⟩:=mH r;exact ord_of_one hz hQ!
def Zf(KF:zr!)(x:V)(H:Hp)(n:Nat):Prop:=
 match x with
 |.str y=>b6!<=sizeLine/\n=b6!
 |.byt y=>y.size<=sizeLine/\n=y.size
 |.ref p=>(∃xs,Ef KF H p xs/\n=g!)\/∃xs,Fg KF H p xs/\n=g!
 |_=>False
def cB:Hb X sI! (λxs H Q=>∃x n,xs=[x]/\Zf X.K x H n/\Q fJ_ H):=by
 intro h1 s Z H xs us Q I r h;obtain⟨x,n,rfl,e,q⟩:=h;obtain⟨u,rfl,rx⟩:=mH r;have hl:=pB;have hs:sizeLine=16777216:=JI;cases x with
 |str y=>
  show"!A";obtain⟨hy,e'⟩:b6!<=sizeLine/\n=b6!:=e;subst e';exact len_str a! hQ!
 |byt y=>
  show"!A";obtain⟨hy,e'⟩:y.size<=sizeLine/\n=y.size:=e;subst e';exact W.len_bytes a! hQ!
 |ref p=>
  cases rx;have e':(∃xs,Ef X.K H p xs/\n=g!)\/∃xs,Fg X.K H p xs/\n=g!:=e;obtain⟨xs,hx,e'⟩|⟨xs,hx,e'⟩:=e'
  .subst e';obtain⟨its,r',pl,hz⟩:=I.list hx;have ay:=h2_;exact Calls.call_len_list pl.isList h1! sJ!
  .subst e';obtain⟨its,r',pl,hz⟩:=I.tuple hx;have ay:=h2_;exact len_tuple pl h1! sJ!
 |_=>exact(sC_).elim
end
end L2
namespace L2
open PySem PySem.Spec PyProof.Rows
structure Sy(h:Heap)(x dx C:yz!)(mA:L!):Prop where
 obj:h.get? x=some kU!
 ns:h.Ns1 dx mA
 ne:dx≠x
def b0b{h:Heap}(n:h.Ns1 dx mA):∃od,h.get? dx=some od/\∀name,W.lookIn name od=some (mA name):=by
 obtain⟨o,es,ep,ho,hd,hk,_,hm⟩:=n;refine⟨o,ho,λname=>?_⟩;have e:=hm name;unfold nsFind findBy at e;rw[<-Array.find?_toList]at e;unfold W.lookIn;rw[hd];show"#=";split
 .rename_i y q;rw[q]at e;exact congrArg some e
 .rename_i q;rw[q]at e;have a:es.toList.any (·.refKey)=false:=by
   rw[RG];intro y hy;obtain⟨z,t,WN⟩:=hk y (Array.mem_toList_iff.mp hy);simp[DictEntry.refKey,WN]
  have a':¬es.toList.any (·.refKey)=true:=by rw[a];exact HV
  rw[HA a'];exact congrArg some e
def Sy.look(I:Sy h x dx C mA):∃od,W.InstAt h x kU! C (some od)/\∀name,W.lookIn name od=some (mA name):=
 let⟨od,ho,hl⟩:=b0b I.ns
 ⟨od,⟨I.obj,rfl,rfl,ho⟩,hl⟩
section
def c0b(X:bm!)(I:l5_)(hg:sK_)(hh:sL!)
  (ha:W.findIn KF H_ name=some none)(hv:mA name=some v)(xq:W.handedIn v=true)(h:Q v {s with toks:=s.toks+1}):
  wpAny l_ A (getAttr bA! name expr) Q E s:=by
 show"#K";exact W.get_value X J (l6_).1 (W.findObj_own hh ha rfl (by rw[hl,hv])) xq h
def b5o(X:bm!)(I:l5_)(hg:sK_)
  (hf:W.findIn KF H_ name=some d9!)(ht:l7_)(hv:mA name=none)(h:Q (.ref f,[dj_]) s):
  wpAny l_ A (getMethod bA! name pl) Q E s:=by
 show"#K";exact W.method_fn X J (l6_).1 (l6_).2 hf (JC.mp ht) (by show(W.lookIn name od).map (·.isSome)=some false;rw[hl,hv];rfl) h
def b7w(X:bm!)(I:l5_)
  (hs:W.findIn KF H_ "__setattr__"=some sO!)(hp:W.plainOver KF C=true)(ht:W.takerIn KF C name=some none)(hh:sL!)
  (hw:PySem.Within mA ns)(hsz:sP!)
  (h:∀h',Sy h' x dx C (λy=>if y=name then some v else mA y)->Heap.SameBut dx s.heap h'->Q () {s with heap:=h',toks:=s.toks+2}):
  wpAny l_ A (setAttr bA! name v) Q E s:=by
 show"#K";refine W.set_plain X J hs (W.osa_open (s:=h3_) (r:=none) X J hp ht λb=>?_);obtain⟨cd,hc,j1⟩:=W.any_some hh;have hx:s.heap.get? x=some ⟨.ref C,some dx,.plain,#[]⟩:=I.obj;refine GM (GP (GM (GM (QD hx (GM (W.Looks.here (s:=h3_) (W.looks_clsIn X hc) ?_))))));rw[j1];refine GP (a:=some dx) (GM (GP h4!));refine wpAny_nsSet1 (s:=h3_) I.ns λh' jj bj=>?_;obtain⟨oD,esD,epD,xr,xt,WO⟩:=jj.count (PySem.Within.cons name v hw);refine GM (wpAny_lookBehind xr (by rw[xt];exact pastItsLine_dict (IL WO (by rw[HJ];omega))) ?_);exact GP (h _ ⟨(bj.2 _ (IA I.ne)).trans I.obj,jj,I.ne⟩ bj)
def b4n(X:bm!)(hm:sR!)
  (hi:sR_)(hf:W.typeIn KF ah_=some (.type "function"))
  (h:codeAny l_ (A.under (.builtin "type.__call__" ⟨.ref C::vs,kw⟩)) (.call ah_ ⟨.ref Y!::vs,kw⟩) (W.InitBack Y! R)
   {s with heap:=(ea!).push h5!}):
  codeAny l_ A (.call H_ ⟨vs,kw⟩) R s:=by
 obtain⟨hh,g,d,t,os⟩:=s;exact W.make_core (W.makes_of X hm) (W.looks_findIn X hi) (λself=>W.bind_fn X self hf) al_ h
end
def Jb(f:Str)(v:V):List cu!->List cu!
 |[]=>[(f,v)]
 |(g,x)::r=>if g=f then(g,v)::r else(g,x)::Jb f v r
def pU(f g:Str)(v:V):∀fs:List cu!,(h5_).lookup g=if g=f then some v else fs.lookup g
 |[]=>by
  show List.lookup g [(f,v)]=_;by_cases h:g=f
  .have hb:(g==f)=true:=JC.mpr h;simp only[List.lookup,hb,HC h]
  .have hb:(g==f)=false:=IQ.mpr h;simp only[List.lookup,hb,HA h]
 |(k,x)::r=>by
  have ih:=pU f g v r;rw[ma_];by_cases hk:k=f
  .rw[aV!];by_cases h:g=k
   .have hb:(g==k)=true:=JC.mpr h;simp only[List.lookup,hb,HC (h.trans hk)]
   .have hb:(g==k)=false:=IQ.mpr h;simp only[List.lookup,hb,HA (λe:g=f=>h (e.trans hk.symm))]
  .rw[aV_];by_cases h:g=k
   .have hb:(g==k)=true:=JC.mpr h;simp only[List.lookup,hb,HA (λe:g=f=>hk (h.symm.trans e))]
   .have hb:(g==k)=false:=IQ.mpr h;simp only[List.lookup,hb];exact ih
def pC(f:Str)(v:V):∀fs:List cu!,f∈(h5_).map c_/\∀g,g∈fs.map c_->g∈(h5_).map c_
 |[]=>⟨by simp[Jb],λg h=>by simp at h⟩
 |(k,x)::r=>by
  obtain⟨i1,i2⟩:=pC f v r;rw[ma_];by_cases hk:k=f
  .rw[aV!];subst hk;exact⟨R_,λg h=>by simpa using h⟩
  .rw[aV_];refine⟨?_,λg h=>?_⟩
   .rw[HD];exact GO _ i1
   .rw[HD]at h ⊢;obtain e|e:=GT.mp h
    .exact GT.mpr (.inl e)
    .exact GO _ (i2 g e)
def pW(f:Str)(v:V):∀fs:List cu!,(h5_).length<=a8_+1
 |[]=>by simp[Jb]
 |(k,x)::r=>by
  have ih:=pW f v r;rw[ma_];by_cases hk:k=f
  .rw[aV!,HJ,HJ];omega
  .rw[aV_,HJ,HJ];omega
def Lu.some_of(r:Lu aG! o):∃u,o=some u/\Be v u:=by
 cases o with
 |none=>exact(h6!).elim
 |some u=>exact⟨u,rfl,r⟩
def Lu.none_of(r:Lu none o):o=none:=by
 cases o with
 |none=>rfl
 |some u=>exact(h6!).elim
def b0k(r:aT!):W.handedIn u=true:=by
 cases v with
 |non=>cases (show u=bZ_ from r);rfl
 |bl b=>cases (show u=Value.bool b from r);rfl
 |int i=>obtain⟨t,e⟩:=sV_;cases e;rfl
 |str x=>obtain⟨t,e⟩:=sW_;cases e;rfl
 |byt b=>obtain⟨t,e⟩:=(show∃t,u=Value.bytes b t from r);cases e;rfl
 |flt b=>obtain⟨t,e⟩:=(show∃t,u=Value.float b t from r);cases e;rfl
 |ref a=>cases (show u=Value.ref a from r);rfl
 |ty n=>cases (show u=Value.type n from r);rfl
section
def zD(hok:aR!)(e:h7!):∃mA,Sy h a dx C mA/\qf_/\PySem.Within mA kU_/\a8_<=1000/\H dx=some fq!:=by obtain⟨d,z,ne,ob,mA,n,r,q⟩:=(show Dp P w H h a ea_ from hok a _ e);exact⟨mA,⟨ob,n,ne⟩,r,q,z,d⟩
end
structure Rz(KF:zr!)(C:yz!):Prop where
 pg:W.plainGet KF C Str.empty=true
 hd:W.hasDictIn KF C=true
 po:W.plainOver KF C=true
 sa:W.findIn KF H_ "__setattr__"=some sO!
def Rz.get(c:Rz KF C)(f:Str):W.plainGet KF C f=true:=c.pg
def Da(KF:zr!)(C:yz!)(f:Str):Prop:=W.findIn KF H_ f=some none
def Da.taker(n:Da KF C f):W.takerIn KF C f=some none:=by unfold W.takerIn;rw[show W.findIn KF H_ f=some none from n];rfl
structure Vy(KF:zr!)(C:yz!)(m:Str)(f:yz!):Prop where
 at_:W.findIn KF H_ m=some d9!
 fn:W.isFn KF ah_=true
 kp:W.keepIn KF ah_=true
section
variable{X:Cx}
def a5e(I:a_)(e:h7!)(c:eb!)(n:Da X.K C f)(l:fs.lookup f=some v)
  (h:∀u s',Inv X h1 Z H s'->Be v u->Q u s'):wpAny e! A (getAttr E! f b) Q E s:=by
 obtain⟨mA,O,r,_,_,_⟩:=zD I.hok e;obtain⟨u,hu,ru⟩:=Lu.some_of (v:=v) (o:=mA f) (by rw[<-l];exact r f);exact c0b I.kIn O (c.get f) c.hd n hu (b0k ru) (h u _ eb_ ru)
def tM(I:a_)(e:h7!)(c:eb!)(k:Vy X.K C m g)(l:fs.lookup m=none)
  (h:Q (.ref g,bE_) s):wpAny e! A (getMethod E! m pl) Q E s:=by
 obtain⟨mA,O,r,_,_,_⟩:=zD I.hok e;have hn:mA m=none:=Lu.none_of (by rw[<-l];exact r m);exact b5o I.kIn O (c.get m) k.at_ k.fn hn h
def a3n(I:a_)(e:h7!)(c:eb!)(n:Da X.K C f)(hl:a8_<1000)(ry:Be y u)
  (h:∀s',Inv X h1 Z (upd H a sZ_) s'->Q () s'):wpAny e! A (setAttr E! f u) Q E s:=by
 obtain⟨mA,O,r,wi,_,ho⟩:=zD I.hok e;have hz:(kU_).length<=sizeLine:=by rw[GY,JI];omega
 refine b7w I.kIn O c.sa c.po n.taker c.hd wi hz λh' O' sb=>h _ ?_;have hd:∃o,h'.get? dx=some o:=let⟨o,_,_,e',_⟩:=O'.ns;⟨o,e'⟩;refine I.write (x:=a) (e:=dx) s0_ h8! (λb q hb z=>(sb.2 b hb).trans z) hd ?_;refine⟨by rw[aW O.ne];exact ho,?_,O.ne,O'.obj,_,O'.ns,λg=>?_,λg hg=>?_⟩
 .have:=pW f y fs;omega
 .show Lu ((Jb f y fs).lookup g) s1_;rw[pU];by_cases q:g=f
  .rw[HC q,HC q];exact ry
  .rw[HA q,HA q];exact r g
 .by_cases q:g=f
  .rw[q];exact(pC f y fs).1
  .refine(pC f y fs).2 g (wi g λz=>hg ?_);show s1_=none;rw[HA q];exact z
def Inv.made(I:a_):Inv X h1 Z (upd (upd H s.heap.objs.size (.own Y!)) Y! (.ins C s.heap.objs.size []))
  {s with heap:=(ea!).push h5!}:=by
 have e1:(ea!).get? g_=some h4_:=HM s.heap rfl;have e2:((ea!).push h5!).get? Y!=some h5!:=by
  have:=HM ea! (o:=W.instObj C g_) rfl;rwa[MN]at this
 have e3:(ea!).Ns s.heap.objs.size s2_:=⟨h4_,#[],_,e1,rfl,(λe he=>absurd he d_),bF!⟩;have I1:=I.laid (a:=g_) (o:=.own Y!) (h':=s.heap.push h4_) (t':=s.toks) s4! u! ⟨_,e1⟩;refine I1.laid (a:=g_+1) (o:=.ins C s.heap.objs.size []) (t':=s.toks) s4! (NU (MN _ _)) ?_;have ne:g_≠g_+1:=IH (OL _);refine⟨by rw[aW ne,bK],IF _,ne,e2,λ_=>none,(Heap.Ns1.of_empty e3).at λo q=>GQ _ q,λ_=>h7_,λy hy=>absurd rfl hy⟩
def c1t(hb:attributeBase e f env s6_=eval e env)
  (h:wpAny l_ A s6_ (λo am=>wpAny l_ A (getAttr o f true) Q E am) E s):wpAny l_ A (eval s7_ env) Q E s:=
 Attribute_any_ h (by rw[arm_eval_Attribute,hb])
end
def DK(KF:zr!)(ta:TE)(f:Str):TE:=λZ H Q=>ta Z H λx H1=>∃a C dx fs v,x=.ref a/\H1 a=some ea_/\Rz KF C/\Da KF C f/\fs.lookup f=some v/\Q v H1
def DQ(KF:zr!)(ta tv:TE)(f:Str):TS:=λD Z H=>tv Z H λy H1=>ta Z H1 λx H2=>∃a C dx fs,x=.ref a/\H2 a=some ea_/\Rz KF C/\Da KF C f/\a8_<1000/\
 D.nx Z (upd H2 a sZ_)
section
variable{X:Cx}
def c3w(he:PE X e ta)(hb:attributeBase e f X.env dZ_=eval e X.env):PE X s7_ (DK X.K ta f):=by intro h1 s Z H Q I h;refine c1t hb dg!;rintro u s1 ⟨x,H1,I1,rx,a,C,dx,fs,v,ex,ea,c,n,l,q⟩;subst ex;obtain rfl:u=Value.ref a:=rx;exact a5e I1 ea c n l λu' s2 I2 ru=>⟨v,H1,I2,ru,q⟩
def c3q(ha:PE X o ta)(hv:PE X value tv)(hs:swapsWith value (some (.Attribute o f pos')) pos.line X.env=pure false):PS X (.Assign [.Attribute o f pos'] value pos) (DQ X.K ta tv f):=by intro h1 s Z H D I h;refine plainObj_wpAny_Assign_Attribute (cW (hv h1 s Z H _ I h) λu s1 ⟨y,H1,I1,ry,q⟩=>cW (ha h1 s1 Z H1 _ I1 q) ?_) hs;rintro ov s2 ⟨x,H2,I2,rx,a,C,dx,fs,ex,ea,c,n,l,q2⟩;subst ex;obtain rfl:ov=Value.ref a:=rx;exact a3n I2 ea c n l ry λs3 I3=>⟨Z,_,I3,q2⟩
def c2f(he:b4!)(I:a_)
  (h:te Z H λx H1=>∃a C dx fs g,x=.ref a/\H1 a=some ea_/\Rz X.K C/\Vy X.K C m g/\fs.lookup m=none/\
   ∀s1,Inv X h1 Z H1 s1->wpAny e! X.A (callWith pos (.ref g) bE_ s8_ ia!) Q X.xe s1)
  (ht:eval s9_ X.env=(do
   let ov <-eval e X.env
   standAt md_
   let(f,first) <-holding [ov] mc_
   callWith pos f first s8_ ia!)):
  wpAny e! X.A (eval s9_ X.env) Q X.xe s:=by
 refine W.methodCall_KW (pl:=pl) dg! ht;rintro u s1 ⟨x,H1,I1,rx,a,C,dx,fs,g,ex,ea,c,k,l,q⟩;subst ex;obtain rfl:u=Value.ref a:=rx;exact tM I1 ea c k l (q s1 I1)
end
end L2
namespace L2
open PySem PySem.Spec PyProof.Rows
structure Ah(k:Nat)(A:yA!):Prop where
 hd:A.handled=none
 dp:A.depth+3*k+5<recursionLimit
 un:A.units+16*k+200<cLine
 gd:A.guards=some []
def Ah.mono(r:Ah k A)(h:j<=k):Ah j A:=⟨r.hd,by have:=r.dp;omega,by have:=r.un;omega,r.gd⟩
def Ah.deeper(r:Ah S_ A)(env:Env):Ah k (A.deeper env):=
 ⟨r.hd,by have:=r.dp;show A.depth+1+3*k+5<_;omega,by have:=r.un;show A.units+3+16*k+200<_;omega,r.gd⟩
def Ah.in1(r:Ah S_ A):Ah k A.in1:=
 ⟨r.hd,by have:=r.dp;show A.depth+3*k+5<_;omega,by have:=r.un;show A.units+1+16*k+200<_;omega,r.gd⟩
def a4w{A:yA!}:(ib_).depth=A.depth+1:=by first|rfl|simp[Around.under,Code.weight,Code.isCreation,Code.isGuard,Code.isCaller,Code.frames,Code.isFrame,guardIds]
def a4v{A:yA!}:(ib_).units=A.units+1:=by first|rfl|simp[Around.under,Code.cUnits,Code.frames,Code.isFrame]
def Ah.make(r:Ah S_ A)(C:yz!)(us:j_)(kw:ic_):Ah k ib_:=
 ⟨r.hd,by have:=r.dp;rw[a4w];omega,by have:=r.un;rw[a4v];omega,by first|exact r.gd|(simpa[Around.under,Code.guards,Code.isGuard,guardIds,pushGuards]using r.gd)⟩
def Ah.depth(r:Ah k A):A.depth<recursionLimit:=by have:=r.dp;omega
def Ah.units(r:Ah k A):A.units+64<cLine:=by have:=r.un;omega
def AB:TA:=λ_ H Q=>Q [] H
def AF(ta:TE)(tr:TA):TA:=λZ H Q=>ta Z H λx H1=>tr Z H1 λxs H2=>Q id_ H2
section
variable{X:Cx}
def fI:PA X [] AB:=λ_ _ _ _ H Q I h=>MV ⟨[],H,I,.nil,h⟩
def cO(ha:b4!)(hr:fN_)(hs:T!:=by rfl):PA X am! (AF te t):=by intro pos h1 s Z H Q I h;rw[hs];show wpAny _ _ (spliced (dn!::backTo pos ln!)) _ _ s;refine KQ hI!;rintro u s1 ⟨x,H1,I1,r1,q1⟩;exact cW (hr pos h1 s1 Z H1 _ I1 q1) λus s2 ⟨xs,H2,I2,r2,q2⟩=>⟨x::xs,H2,I2,.cons r1 r2,q2⟩
def CY(t:TA):TE:=λZ H Q=>t Z H λxs H1=>g!<=sizeLine/\∀p,H1 p=none->Q b7_ (upd H1 p aQ_)
def DF(t:TA):TE:=λZ H Q=>t Z H λxs H1=>g!<=sizeLine/\∀p,H1 p=none->Q b7_ (upd H1 p A_)
def b2x {x1}(h:fN_):PE X te_ (CY t):=by intro h1 s Z H Q I hq;refine wpAny_Tuple_spliced tf!;have hf:H1 x_=none:=I1.hok.fresh u!;refine⟨.ref x_,upd H1 s1.heap.objs.size aQ_,tg_,rfl,q _ hf⟩;exact⟨z,us,r,⟨_,dg_,rfl,_,rfl⟩⟩
def sI(h:fN_):PE X me! (DF t):=by intro h1 s Z H Q I hq;refine wpAny_List_spliced tf!;have hf:H1 x_=none:=I1.hok.fresh u!;refine⟨.ref x_,upd H1 s1.heap.objs.size A_,tg_,rfl,q _ hf⟩;exact⟨z,us,0,r,dg_⟩
end
abbrev Sp:=List V->Hp->VK->XK->Prop
abbrev Yj:=List Env->Hp->Shared->XK->Value->Shared->Prop
structure Os(P:yL!)(w:yK!)(KF:zr!)(mg:L!)(base:Heap)(A:yA!)(outer:ai!)(s:yM!)(H:Hp):Prop where
 frames:A.frames=some outer
 mod:Mod KF mg base
 bs:∀b o,base.get? b=some o->s.heap.get? b=some o/\H b=none
 bsz:base.objs.size<=g_
 funs:s.heap.FunFrames base outer
 frf:∀b∈frs outer,H b=none
 hok:Jx P w H s.heap
 bare:AllBare s.gens
def CE(outer:ai!)(P:yL!)(w:yK!)(H:Hp)(s:yM!)(Q:VK)(u:yB!)(s':yM!):Prop:=
 ∃v H',s'.os=s.os/\AllBare s'.gens/\Un (frs outer) [] H H' s.heap s'.heap/\Jx P w H' s'.heap/\Be v u/\Q v H'
def CR(CX:Yj)(outer:ai!)(P:yL!)(w:yK!)(H:Hp)(s:yM!)(Q:VK)(E:XK)(r:Result)(s':yM!):Prop:=
 match r with
 |.ok (.ret u)=>CE outer P w H s Q u s'
 |.ok _=>False
 |.error e=>CX outer H s E e s'
structure Em(P:yL!)(w:yK!)(KF:zr!)(mg:L!)(base:Heap)(CX:Yj)(k:Nat)(f:yz!)(fd:FuncData)(ps:D!)(sp:Sp):Prop where
 len:∀vs H Q E,sp vs H Q E->aU_=O!
 run:∀(A:yA!) (outer:ai!) (s:yM!) (H:Hp) (args:Args) (us:j_) (vs:o!) (Q:VK) (E:XK),Ah k A->Os P w KF mg base A outer s H->BindsTo s fd args cE_->Aq vs us->sp vs H Q E->
  codeAny v! A (.call ah_ args) (CR CX outer P w H s Q E) s
def Em.mono(F:Em P w KF mg base CX j f fd ps sp)(h:j<=k):
  Em P w KF mg base CX k f fd ps sp:=⟨F.len,λA outer s H args us vs Q E hr=>F.run A outer s H args us vs Q E (hr.mono h)⟩
def Em.imp(F:Em P w KF mg base CX k f fd ps sp)
  (h:∀vs H Q E,WQ vs H Q E->sp vs H Q E):Em P w KF mg base CX k f fd ps WQ:=
 ⟨λvs H Q E q=>F.len vs H Q E (h _ _ _ _ q),λA outer s H args us vs Q E hr he hb hv hs=>F.run A outer s H args us vs Q E hr he hb hv (h _ _ _ _ hs)⟩
def Os.make(e:me_)(C:yz!)(us:j_)(kw:ic_):
  Os P w KF mg base ib_ outer s H:=⟨by first|exact mf!|(simpa[Around.under,Code.envs,Code.isFrame,pushEnvs]using mf!),e.mod,e.bs,e.bsz,e.funs,e.frf,e.hok,e.bare⟩
def Os.in1(e:me_):
  Os P w KF mg base A.in1 outer s H:=⟨mf!,e.mod,e.bs,e.bsz,e.funs,e.frf,e.hok,e.bare⟩
section
variable{X:Cx}
def Inv.env0(I:a_):Os X.prog X.w X.K X.mg X.base X.A X.stack s H:=
 ⟨I.ok.frames,I.ok.mod,I.bs,IL I.ok.bsz I.sz,I.stack,I.stkFree,I.hok,I.bare⟩
def Inv.after(I:a_)(h:CE X.stack X.prog X.w H s Q u s'):EP X h1 Z Q u s':=by obtain⟨v,H',os,bare,un,hok,r,q⟩:=h;obtain⟨hh,g,d,t,xu⟩:=s';obtain rfl:xu=s.os:=os;exact⟨v,H',I.call (h':=hh) (g':=g) (d':=d) (t':=t) (ch:=[]) un hok bare ti_,r,q⟩
end
def AG(sp:Sp)(dvs:o!)(E:XK)(t:TA):TE:=λZ H Q=>t Z H λvs H1=>sp do! H1 Q E
def AD(C:yz!)(m:Str)(sp:Sp)(dvs:o!)(E:XK)(ta:TE)(t:TA):TE:=λZ H Q=>ta Z H λx H1=>∃a dx fs,x=.ref a/\H1 a=some ea_/\fs.lookup m=none/\
 t Z H1 λvs H2=>sp (x::do!) H2 Q E
def Xv(C:yz!)(sp:Sp)(dvs:o!)(E:XK)(t:TA):TE:=λZ H Q=>t Z H λvs H1=>∀x dx,H1 x=none->H1 dx=none->dx≠x->
 sp qZ_ mg_ tj_ E
def Ec(KF:zr!)(fd:FuncData)(ps:D!)(ds:j_):Prop:=
 ∀(s:yM!) (us:j_),KF.In s.heap->(ef!).length=O!->BindsTo s fd cF! (ps.zip ef!)
def Ec.all(h:∀us:List Value,W_=O!->bindArgs fd cF!=pure cE_):Ec KF fd ps []:=λs us _ hl=>by
 rw[IB]at hl ⊢;exact .of_eq (h us hl)
def Jw(CX:Yj)(X:Cx)(E:XK):Prop:=∀(h1:r!) (Z:St) (H:Hp) (s:yM!) (e:yB!) (s':yM!),Inv X h1 Z H s->CX X.stack H s E e s'->X.xe e s'
section
variable{X:Cx}
def a3q(F:ef_)(hr:bc!)(hb:eg_)(hd:eh!)(hx:eh_)
  (I:a_)(r:dZ!)(h:sp do! H Q E):wpAny e! X.A tk_ au_ X.xe s:=by
 have r2:Aq do! ef!:=r.append hd;have hl:(ef!).length=O!:=by rw[<-r2.length];exact F.len _ _ _ _ h
 refine wpAny_call (QA (F.run X.A X.stack s H cF! ef! do! Q E hr I.env0 (hb s us I.kIn hl) r2 h) λr s' hq=>?_);cases r with
 |error e=>exact hx h1 Z H s e s' I hq
 |ok fl=>
  cases fl with
  |ret u=>exact I.after hq
  |next=>exact False.elim hq
  |brk=>exact False.elim hq
  |cont=>exact False.elim hq
def qO(F:ef_)(hr:bc!)(hg:D_)(hm:X.mg x=some ah_)(hk:W.keepIn X.K ah_=true)(hb:eg_)(hd:eh!)(hx:eh_)
  (ha:ei!)(au:x!:=by decide)(he:T!:=by rfl)(ar:ar!:=by rfl):
  PE X az! (AG sp dvs E t):=by
 show"!C";refine LL mh!;refine W.callWith_K (h₀:=X.base) I.ok.mod.kin hk tl_ he ar;exact a3q F hr hb hd hx I1 r q
def b8m(he:PE X o ta)(c:eb!)(hm:Vy X.K C m f)(F:ef_)(hr:bc!)(hb:eg_)(hd:eh!)(hx:eh_)(ha:ei!)
  (hst:T!:=by rfl)(ar:ar!:=by rfl)
  (ht:eval ih! X.env=(do
   let ov <-eval o X.env
   standAt md_
   let(f,first) <-holding [ov] mc_
   callWith pos f first tm_ ia!):=by rfl):
  PE X ih! (AD C m sp dvs E ta t):=by
 show"!C";refine W.methodCall_KW (pl:=pl) dg! ht;rintro u s1 ⟨x,H1,I1,rx,a,dx,fs,ex,ea,l,q⟩;subst ex;obtain rfl:u=Value.ref a:=rx;refine tM I1 ea c hm l ?_;refine W.callWith_K (first:=bE_) (h₀:=X.base) I.ok.mod.kin hm.kp (cW (ha pos h1 s1 Z H1 _ I1 q) λus s2 ⟨vs,H2,I2,r,q2⟩=>tp!) hst ar;exact a3q (us:=.ref a::us) (vs:=.ref a::vs) F hr hb hd hx I2 (.cons rfl r) q2
structure Mk(KF:zr!)(C f:yz!):Prop where
 makes:W.makesIn KF C=true
 init:W.findIn KF H_ "__init__"=some d9!
 fn:W.isFn KF ah_=true
 kp:W.keepIn KF H_=true
def a0j(M:mi_)(F:ef_)(hr:fQ_)(hb:eg_)(hd:eh!)
  (hx:eh_)(I:a_)(r:dZ!)
  (h:∀x dx,H x=none->H dx=none->dx≠x->sp qZ_ (upd (upd H dx ho_) x mg!) tj_ E):
  wpAny e! X.A (call H_ us) au_ X.xe s:=by
 have hq:=h Y! s.heap.objs.size tp_ ei_ (IH (OL _));have I2:=Inv.made (C:=C) I;have r2:Aq (V.ref Y!::do!) tq!:=.cons rfl (r.append hd);have hl:(Value.ref Y!::us++ds).length=O!:=by
  have e:=r2.length;rw[F.len _ _ _ _ hq]at e;exact e.symm
 refine wpAny_call (b4n (f:=f) I.kIn M.makes M.init (JC.mp M.fn) (QA (F.run _ X.stack _ _ ⟨Value.ref Y!::us,[]⟩ tq! _ _ E (hr.make C us [])
  (I2.env0.make C us []) (hb _ (Value.ref Y!::us) I2.kIn hl) r2 hq) λr s' bg=>?_))
 cases r with
 |error e=>exact hx h1 Z _ _ e s' I2 bg
 |ok fl=>
  cases fl with
  |ret u=>
   obtain⟨v,H',I3,rv,ev,q3⟩:=I2.after bg;subst ev;exact⟨rv,⟨V.ref Y!,H',I3,rfl,q3⟩⟩
  |next=>exact False.elim bg
  |brk=>exact False.elim bg
  |cont=>exact False.elim bg
def b8n(M:mi_)(F:ef_)(hr:fQ_)(hg:D_)(hm:fR_)(hb:eg_)(hd:eh!)(hx:eh_)
  (ha:ei!)(au:x!:=by decide)(he:T!:=by rfl)(ar:ar!:=by rfl):
  PE X az! (Xv C sp dvs E t):=by
 show"!C";refine LL mh!;refine W.callWith_K (h₀:=X.base) I.ok.mod.kin M.kp tl_ he ar;exact a0j M F hr hb hd hx I1 r q
def b3b(M:mi_)(F:ef_)(hr:fQ_)(hg:D_)(hm:fR_)(hb:eg_)(hd:eh!)(hx:eh_)
  (au:x!:=by decide):PE X tr! (Xv C sp dvs E AB):=by
 show"!C";refine LL mh!;exact W.callWith_K0 I.kIn M.kp (a0j (us:=[]) M F hr hb hd hx I .nil h)
end
structure Ep(N P:D!)(sc:Scope):Prop where
 kind:sc.kind=.function
 co:sc.isCoroutine=false
 gen:sc.isGenerator=false
 nd:N.Nodup
 pre:N.take P.length=P
 par:∀x∈P,sc.names.lookup x=some .local\/sc.names.lookup x=some .cell
 nofree:∀y∈sc.names,y.2≠.free
def wP{kindOf:ii!}:∀{binds:ic_} {m:L!},ts!->bindL kindOf binds m x=m x
 |[],_,_=>rfl
 |(n,v)::r,m,h=>by
  unfold bindL;rw[wP λw hw=>h w (GO _ hw)];split
  .have:x≠n:=by rintro rfl;exact h v GR
   simp[this]
  .rfl
def wR{kindOf:ii!}:∀{binds:ic_} {m:L!},ts!->bindC kindOf binds m x=m x
 |[],_,_=>rfl
 |(n,v)::r,m,h=>by
  unfold bindC;rw[wR λw hw=>h w (GO _ hw)];split
  .rfl
  .have:x≠n:=by rintro rfl;exact h v GR
   simp[this]
def wQ{kindOf:ii!}:∀{P:D!} {vs:j_} {i:Nat} {m:L!},P.Nodup->P[i]?=some x->vs[i]?=some v->kindOf x=some .local->
  bindL kindOf (P.zip vs) m x=some v
 |[],_,_,_,_,h,_,_=>by simp at h
 |_::_,[],_,_,_,_,h,_=>by simp at h
 |p::P,w::vs,0,m,nd,Y,h2,hk=>by
  simp at Y h2;subst Y;subst h2;show bindL kindOf ii_ m p=_;unfold bindL;rw[wP λv hv=>(ij!).1 (RY hv).1,aV!];simp
 |p::P,w::vs,i+1,m,nd,Y,h2,hk=>by
  show bindL kindOf ii_ m x=_;unfold bindL;exact wQ (i:=i) (ij!).2 tt_ ts_ hk
def wS{kindOf:ii!}:∀{P:D!} {vs:j_} {i:Nat} {m:L!},P.Nodup->P[i]?=some x->vs[i]?=some v->kindOf x≠some .local->
  bindC kindOf (P.zip vs) m x=some v
 |[],_,_,_,_,h,_,_=>by simp at h
 |_::_,[],_,_,_,_,h,_=>by simp at h
 |p::P,w::vs,0,m,nd,Y,h2,hk=>by
  simp at Y h2;subst Y;subst h2;show bindC kindOf ii_ m p=_;unfold bindC;rw[wR λv hv=>(ij!).1 (RY hv).1,aV_];simp
 |p::P,w::vs,i+1,m,nd,Y,h2,hk=>by
  show bindC kindOf ii_ m x=_;unfold bindC;exact wS (i:=i) (ij!).2 tt_ ts_ hk
def Kn(N:D!)(vs:o!):St:=vs.map some++List.replicate (ij_ - aU_) none
def Hf(CX:Yj)(P:yL!)(w:yK!)(KF:zr!)(mg:L!)(base:Heap)(N:D!)(qual:Str)(scope:Scope)(f:yz!)(cd:yB!)(A:yA!)(outer:ai!)(s:yM!)(H:Hp)(E:XK):Cx where
 prog:=P
 w:=w
 K:=KF
 mg:=mg
 base:=base
 A:=A.deeper fT!
 N:=N
 s₀:=s
 H₀:=H
 env:=envOfC qual scope s.heap.objs.size f cd
 outer:=outer
 stack:=envOfC qual scope s.heap.objs.size f cd::outer
 ex:=[]
 calm:=true
 fn:=λ_=>true
 pn:=[]
 xe:=λe s'=>wpAny v! (A.deeper fT!) (leaving fT! e) (λ_ xv=>CX outer H s E e xv) (λe' xv=>CX outer H s E e' xv) s'
def a2z{sc:Scope}(h:sc.names.lookup x=some .cell):∃c,(cellsFrom n sc.names []).lookup x=some c:=by have q:=W.cellsFrom_some sc.names n [] hJ_;exact PP.mp q
def b0g
  (S:r2!)(hd:bn_)(e0:me_)(hl:aU_=O!)(r:dZ!)
  (x:InCallC s s.heap.objs.size (bindL (fT!).kindOf cE_ λ_=>none) tv_ (bindC (fT!).kindOf cE_ λ_=>none) s1):
  Inv tw_ [] fU! H s1:=by
 have ar:O!<=ij_:=by have:=congrArg List.length S.pre;rw[NQ]at this;omega
 obtain⟨Y,tk,rfl,hk⟩:=x.done;have tz:∀b:Addr,b∉(tw_).ex:=λb z=>absurd tx! d_;refine⟨⟨e0.mod,S.kind,rfl,rfl,HK _,λy z c Y h2=>?_,r9!,λy c _ h=>?_,λ_=>hd,Around.frames_deeper e0.frames,.inr aI_,tz!,e0.bs,e0.bsz,λb _ _=>tz b,tz!,e0.funs,e0.frf⟩,
  rfl,e0.bare,Un.kept hk,⟨_,x.toInCall.ns,λi y v Y h2 h3=>?_⟩,λy c h=>⟨_,x.cell y c h⟩,e0.hok.fresh u!,λy c h=>?_,λp hp=>absurd (show p∈([]:List dW_)from hp) d_,e0.hok.kept hk,?_⟩
 .exact name_of_addr x.apart (LO Y) (LO h2)
 .have hy:scope.names.lookup y=some .cell\/scope.names.lookup y=some .free:=hy;obtain hy|hy:=hy
  .exact a2z hy
  .exact absurd rfl (S.nofree _ (LO hy))
 .exact NT tA_
 .have hi:i<aU_:=by
   unfold Kn at h2;by_cases hi:i<aU_
   .exact hi
   .rw[ek!]at h2;rw[KJ]at h2;split at h2<;>cases h2
  have ha:vs[i]?=some v:=by
   unfold Kn at h2;rw[ik!,IK]at h2;cases e:vs[i]? with
   |none=>rw[e]at h2;cases h2
   |some a=>rw[e]at h2;cases h2;rfl
  obtain⟨u,hu,rv⟩:=r.get ha;have hp:ps[i]?=some y:=by
   rw[<-S.pre,List.getElem?_take_of_lt a!];exact Y
  have SU:ps.Nodup:=by rw[<-S.pre];exact S.nd.sublist (List.take_sublist _ _)
  refine⟨u,rv,?_⟩;obtain k|k:=S.par y (MJ hp)
  .exact .inl ⟨k,wQ SU hp hu k⟩
  .obtain⟨c,e⟩:=a2z (n:=g_+1) k;refine .inr ⟨.inl k,c,e,?_⟩;have q:=x.cell y c e;rw[wS SU hp hu (by show scope.names.lookup y≠_;rw[k];decide)]at q;exact q
 .exact e0.hok.fresh (NT tA_)
 .unfold Kn;show _=ij_;rw[HN,GY,MB];omega
def c2m{kV:yB!}
  (lk:KF.lookup f=some ⟨oc,od,.func tD!,iq⟩)(bz:il!)(S:r2!)
  (len:tD_)
  (qq:∀(A:yA!) (outer:ai!) (s:yM!) (H:Hp) (vs:o!) (Q:VK) (E:XK),Ah k (A.deeper (envOfC qual scope s.heap.objs.size f ah))->sp vs H Q E->
   ∃t,Lx mn_ body t/\t {nx:=λ_ H'=>Q .non H',rt:=Q} fU! H):
  Em P w KF mg base CX S_ f tD! ps sp:=by
 refine⟨len,λA outer s H args us vs Q E hr e0 hb r jk=>?_⟩;have hl:=len _ _ _ _ jk;have KX:KF.In s.heap:=e0.mod.kin.keeps λb o e=>(tE!).1;have WR:s.heap.NoLimit:=e0.mod.nolimit.keeps λb o e=>(tE!).1;have cx:∀y∈ps.zip us,scope.names.lookup y.1=some .local\/(scope.names.lookup y.1=some .cell/\((tv_).lookup y.1).isSome=true):=λ⟨n,v⟩ hy=>by
  obtain q|q:=S.par n (RY hy).1
  .exact .inl q
  .exact .inr ⟨q,W.cellsFrom_some _ _ _ (.inl q)⟩
 refine codeAny_call_function hr.depth (KX _ _ lk) rfl S.co S.gen rfl (W.codeRec_of KX bz) (hb _ _ _ _ ?_);refine wpAny_newFunctionEnv_cells S.kind cx λenv he s1 x=>?_;subst he;refine⟨WR.keeps x.toInCall.keep,codeAny_func ?_⟩;obtain⟨t,ht,hq⟩:=qq A outer s H vs Q E (hr.deeper _) jk;have I:Inv mn_ [] fU! H s1:=b0g S hr.hd e0 hl r x;refine JS (ht [] s1 fU! H _ I hq) (λfl s' hs=>?_) λe s' hs=>hs;have ag:∀{ae:St} {H':Hp} {v:V} {u:yB!},Inv mn_ [] ae H' s'->Be v u->Q v H'->CE outer P w H s Q u s':=
  λ{ae H' v u} J rv q=>⟨v,H',J.os,J.bare,J.base,J.hok,rv,q⟩
 cases fl with
 |ret u=>
  obtain⟨v,ae,H',J,rv,q⟩:=hs;exact ag J rv q
 |next=>
  obtain⟨ae,H',J,q⟩:=hs;exact ag (v:=V.non) (u:=bZ_) J rfl q
 |brk=>
  obtain⟨_,_,_,q⟩:=hs;exact False.elim q
 |cont=>
  obtain⟨_,_,_,q⟩:=hs;exact False.elim q
end L2
namespace L2
open PySem PySem.Spec PyProof.Rows
section
variable{X:Cx}{id T:String}
def FC(r:d7!)(t:TA):TE:=λZ H Q=>t Z H λvs H1=>r vs H1 Q
def jY(hc:l8_)(hg:D_)(hm:b3!)(hv:mp_)(ha:ei!)(hn:b3_:=by decide)(au:x!:=by decide)
  (he:T!:=by rfl)(ar:ar!:=by rfl):PE X az! (FC r t):=by
 show"!C";refine LL tG_;exact PyProof.Rows.callWith_builtin1 tF_ he ar
def vK(hc:mq_)(hg:D_)(hm:b3!)(hv:il_)(ha:ei!)(hn:b3_:=by decide)(au:x!:=by decide)
  (he:T!:=by rfl)(ar:ar!:=by rfl):PE X az! (FC r t):=by
 show"!C";refine LL tG_;exact JP tF_ he ar
end
end L2
namespace HT
open PySem PyProof.Rows
section
open PySem.SeqAt
open PySem.AutoSeq1 (wpAny_loadPart')
open PySem.MeetsSeq PySem.MeetsSeq2 PySem.MeetsSeq3
end
section
def cat_tup(ht:IsTup s.heap t b9_)(hb:IsTup s.heap b ws.toArray)(hv:vs≠[])
  (Y:ws=[]->Q im! s)(h2:ws≠[]->Q ba! {s with heap:=s.heap.push {cls:=.type "tuple",data:=.seq (mb!).toArray}})
  (hsz:aU_+mb_<=sizeLine):wpAny l_ A (binaryOp .Add im! el_) Q E s:=by
 obtain⟨⟨cls,dd,data,sl⟩,ho,hc,n,hd⟩:=id ht;obtain⟨⟨WU,vi,data2,jl⟩,nz,t0,n2,og⟩:=id hb;simp only at hc hd t0 og;subst hc hd t0 og;have e:b9_++ws.toArray=(mb!).toArray:=by simp
 by_cases hw:ws=[]
 .exact concat_meets mr_ ms! noFill_tuple_add seq_tuple_add QE PX ms_
   (tuple_addW1 t b vs.toArray ws.toArray n n2 dd vi sl jl im_ (by simp[hw])) ⟨ho,nz,Y hw⟩
 .refine concat_meets mr_ ms! noFill_tuple_add seq_tuple_add QE PX ms_
   (tuple_addW2 t b vs.toArray ws.toArray n n2 dd vi sl jl im_ in! (by rw[GW,GW];exact hsz)) ⟨ho,nz,?_⟩
  rw[e];exact h2 hw
nonrec def sIx(n d:Nat):Option Int->Nat
 |none=>d
 |some v=>if v<0 then(mu!).toNat else min v.toNat n
def c3h(n d:Nat)(hd:d<=n)(o:aA!):sIx n d o<=n:=by
 cases o with
 |none=>exact hd
 |some v=>
  show tL!<=n;by_cases hv:v<0
  .rw[HC hv];omega
  .rw[HA hv];exact Nat.min_le_right _ _
def a8d(v:Int)(n d:Nat):tM!=((sIx n d aG!:Nat):Int):=by
 show tM!=((tL!:Nat):Int);by_cases hv:v<0
 .simp only[HC hv];omega
 .simp only[HA hv];omega
def a5t(lo hi:aA!)(n:Nat):Builtin.Slice.sliceAdjust lo hi 1 (n:Int)=(in_,tN!):=by
 have Y:¬((1:Int)<0):=by omega
 unfold Builtin.Slice.sliceAdjust;simp only[Y,IU];refine Prod.ext ?_ ?_
 .cases lo with
  |none=>rfl
  |some v=>exact a8d v n 0
 .cases hi with
  |none=>rfl
  |some v=>exact a8d v n n
def a3x(i j:Nat):Builtin.Slice.slicePlaces (i:Int) (j:Int) 1=j - i:=by
 unfold Builtin.Slice.slicePlaces;have Y:(1:Int)>0:=by omega
 simp only[Y,JN,Int.ediv_one];split<;>omega
def rW(p:IsPart v o)(h:Q o s):wpAny l_ A (Builtin.Slice.slicePartIndex v) Q E s:=by
 cases p with
 |none=>exact slicePart_none h
 |int i t=>exact slicePart_int h
def oK{lo hi:aA!}{Q:Int×Int×Nat->Shared->Prop}(hs:tO_)(pl:tP!)(pu:tP_)
  (h:Q (in_,1,sIx n n hi - sIx n 0 lo) s):wpAny l_ A (Builtin.Slice.sliceApplied io! (pure (n:Int))) Q E s:=by
 obtain⟨os,oj,qr,vj⟩:=id hs;unfold Builtin.Slice.sliceApplied Builtin.Slice.sliceFields;refine GM (GM (JB oj vj (x:=vl) rfl (GM (JB oj vj (x:=vu) rfl (GM (JB oj vj (x:=bH!) rfl K_))))));refine GM (slicePart_none ?_);show wpAny _ _ (if((1:Int)==0)=true then _ else _) _ _ s;rw[HA b_];refine GM (rW pl (GM (rW pu (GM K_))));show wpAny _ _ (match Builtin.Slice.sliceAdjust lo hi 1 (n:Int)with|(lo,hi)=>pure (lo,(1:Int),Builtin.Slice.slicePlaces lo hi 1)) _ _ s;rw[a5t lo hi n];show wpAny _ _ (pure (in_,(1:Int),Builtin.Slice.slicePlaces in_ tN! 1)) _ _ s;rw[a3x];exact GP h
def b2s(xs:bi_)(i k:Nat):((List.range k).filterMap λ(m:Nat)=>xs[(mx!).toNat]?).toArray=((xs.toList.drop i).take k).toArray:=by
 have e:(λ(m:Nat)=>xs[(mx!).toNat]?)=λm=>xs[i+m]?:=by
  funext m;have:(mx!).toNat=i+m:=by omega
  rw[this]
 rw[e];have:=pick_run xs i k;rw[List.filterMap_map]at this;have e2:((λx=>xs[x]?)∘λx=>i+x)=λm=>xs[i+m]?:=rfl;rw[e2]at this;rw[this]
def getItem_tuple_cut{lo hi:aA!}(ht:IsTup s.heap t items)(hs:tO_)(pl:tP!)(pu:tP_)
  (hw:¬(sIx items.size 0 lo=0/\sIx items.size items.size hi=bI!))
  (h:Q ba! {s with heap:=s.heap.push {cls:=.type "tuple",data:=.seq (my!).toArray}})
  (hsz:my_):wpAny l_ A (getItem im! io!) Q E s:=by
 have vk:sizeOk (.seq (my!).toArray):=by
  show(my!).toArray.size<=sizeLine;rw[GW,NQ,List.length_drop,JE];omega
 have hj:sIx items.size items.size hi<=bI!:=c3h _ _ u! hi;obtain⟨os,oj,qr,vj⟩:=id hs;have WV:s.TypeIs io! "slice":=⟨os,oj,qr⟩;unfold getItem
 try with_reducible refine IR ?_
 first|refine GM K_|skip
 refine GM (wpAny_sequenceKey ht.typeIs b_ ?_);refine GM (JA (name:=tT_) ht.typeIs OE
  (IT OE ht.typeIs entry_tuple_getitem ?_ (args_tuple_getitem _ _)))
 show wpAny _ _ (Builtin.Tuple.tupleItemsOf im!>>=_) _ _ s;refine GM (tupleItemsOf_ ht ?_);refine GM (QV WV ?_);rw[HC b_];refine GM (oK hs pl pu ?_);have oq:¬(tV!=true):=by
  intro q;rw[HQ,HQ]at q;have q1:tU_=0:=eq_of_beq q.1.1;have q2:sIx items.size items.size hi - sIx items.size 0 lo=bI!:=eq_of_beq q.2;exact hw tW!
 show wpAny _ _ (if tV!=true then _ else _) _ _ s;rw[HA oq,b2s]
 first
  |exact GM (m:=io_) (JX ip! vk)
  |exact GM (m:=io_) (JX (GM (GP ip!)) vk)
  |exact GM (GM (m:=io_) (JX (GP ip!) vk))
  |exact GM (GM (m:=io_) (JX ip! vk))
end
end HT
namespace L2
open PySem PySem.Spec PyProof.Rows
abbrev TO:=St->Hp->(Option Int->Hp->Prop)->Prop
def PO(X:Cx)(e:Option Expr)(t:TO):Prop:=
 ∀(h1:r!) (s:yM!) (Z:St) (H:Hp) (Q:tX_),Inv X h1 Z H s->t Z H Q->
  wpAny e! X.A (evalPart e X.env) (λu s'=>∃o H',Inv X h1 Z H' s'/\IsPart u o/\Q o H') X.xe s
def Wq:TO:=λ_ H Q=>Q none H
def Zz(t:TE):TO:=λZ H Q=>t Z H λx H1=>∃i,x=.int i/\Q (some i) H1
section
variable{X:Cx}{lo hi:Option Expr}{pos p2:Pos}
def b8i:PO X none Wq:=by intro h1 s Z H Q I h;rw[evalPart_none];exact GP ⟨none,H,I,bH!,h⟩
def b8h(h:b4!):PO X hN_ (Zz te):=by intro h1 s Z H Q I hw;rw[evalPart_some];refine cW ls_ ?_;rintro u s1 ⟨x,H1,I1,r1,q1⟩;obtain⟨i,rfl,q⟩:=q1;obtain⟨t,rfl⟩:=r1;exact⟨aA_,H1,I1,.int i t,q⟩
def Ye(X:Cx)(r:tY!):Prop:=
 ∀(h1:r!) (s:yM!) (Z:St) (H:Hp) (x:V) (v vl vu:yB!) (lo hi:aA!) (sl:yz!) (Q:VK),Inv X h1 Z H s->Be x v->s.heap.IsSliceOf sl vl vu .none->IsPart vl lo->IsPart vu hi->r x lo hi H Q->
  ∃T id,typeLookup el! "__getitem__"=pure (some ek_)/\s.TypeIs v T/\wpAny e! X.A (getItem v io!) au_ X.xe s
def Ye.or(h:Ye X r)(h':Ye X r'):Ye X (λx lo hi H Q=>r x lo hi H Q\/r' x lo hi H Q):=by
 intro h1 s Z H x v vl vu lo hi sl Q I rx hs pl pu q;obtain q|q:=q
 .exact h h1 s Z H x v vl vu lo hi sl Q I rx hs pl pu q
 .exact h' h1 s Z H x v vl vu lo hi sl Q I rx hs pl pu q
def FT(r:tY!)(te:TE)(tl th:TO):TE:=λZ H Q=>te Z H λx H1=>tl Z H1 λl H2=>th Z H2 λu H3=>r x l u H3 Q
def b2y(hr:Ye X r)(he:b4!)(hl:PO X lo tl)(hu:PO X hi th):PE X (.Subscript e mA! pos) (FT r te tl th):=by intro h1 s Z H Q I h;refine Subscript_ dg!;rintro v s1 ⟨x,H1,I1,r1,q1⟩;refine wpAny_Slice (cW (hl h1 s1 Z H1 _ I1 q1) λvl s2 ⟨l,H2,I2,pl,q2⟩=>cW (hu h1 s2 Z H2 _ I2 q2) ?_);rintro vu s3 ⟨u,H3,I3,pu,q3⟩;rw[evalPart_none];refine GP ?_;have I4:Inv X h1 Z H3 {s3 with heap:=s3.heap.push {cls:=.type "slice",data:=.fields #[vl,vu,.none]}}:=I3.kept (t':=s3.toks) λb ob q=>GQ _ q;obtain⟨T,id,hT,ht,hg⟩:=hr h1 {s3 with heap:=s3.heap.push {cls:=.type "slice",data:=.fields #[vl,vu,.none]}} Z H3 x v vl vu l u s3.heap.objs.size Q I4 r1 (Heap.IsSliceOf.new ..) pl pu q3;show wpAny e! X.A (subscriptTail e mA! v (.ref t1!)) au_ X.xe {s3 with heap:=s3.heap.push {cls:=.type "slice",data:=.fields #[vl,vu,.none]}};exact tail_any (ops:=[.ref t1!,v]) ht hT hg (by with_unfolding_all rfl)
def Rr(xs:o!)(lo hi:aA!):List V:=(t3!).take mA_
def qC(xs:o!)(lo hi:aA!):(fY!).length<=g!:=by unfold Rr;rw[NQ,List.length_drop];omega
def DR(KF:zr!):V->Option Int->Option Int->Hp->VK->Prop:=λx lo hi H Q=>∃a xs,x=.ref a/\Fg KF H a xs/\
 ¬(HT.sIx xs.length 0 lo=0/\HT.sIx xs.length xs.length hi=g!)/\∀p,H p=none->Q b7_ (upd H p (.tup fY!))
def c3e:Ye X (DR X.K):=by
 intro h1 s Z H x v vl vu lo hi sl Q I rx hs pl pu h;obtain⟨a,xs,rfl,hx,hw,q⟩:=h;cases rx;obtain⟨its,r,ht,hz⟩:=I.tuple hx;have ay:cb!=g!:=by rw[GW];exact r.length.symm
 refine⟨"tuple",_,OE.lookup,ht.typeIs,?_⟩;refine HT.getItem_tuple_cut ht hs pl pu (by rw[ay];exact hw) ?_ (by rw[ay];exact hz);rw[ay];refine⟨dp_,_,I.laid (t':=s.toks) (o:=.tup fY!) mB_ u! ?_,rfl,q _ ei_⟩;exact⟨t4_,_,t5!,t5_⟩
def Xy(KF:zr!):R2:=λx y H Q=>∃a b xs ys,x=.ref a/\y=.ref b/\Fg KF H a xs/\Fg KF H b ys/\xs≠[]/\g!+P!<=sizeLine/\
 (ys=[]->Q E! H)/\(ys≠[]->∀p,H p=none->Q b7_ (upd H p (.tup dV!)))
def Aq.nil_iff(r:da_):us=[]↔xs=[]:=by
 cases r with
 |nil=>simp
 |cons _ _=>simp
def b8s:Fw X d7_ (Xy X.K):=by intro h1 s Z H x y v u Q I rx ry h;obtain⟨a,b,xs,ys,rfl,rfl,ha,hb,hx,hz,q1,q2⟩:=h;cases rx;cases ry;obtain⟨its,r1,p1,_⟩:=I.tuple ha;obtain⟨ir,r2,p2,_⟩:=I.tuple hb;refine HT.cat_tup p1 p2 (λz=>hx (r1.nil_iff.mp z)) (λz=>⟨bb!,H,I,rfl,q1 (r2.nil_iff.mp z)⟩) mC_ (by rw[<-r1.length,<-r2.length];exact hz);refine⟨dp_,_,I.laid (t':=s.toks) (o:=.tup dV!) mB_ u! ?_,rfl,q2 (λw=>z (r2.nil_iff.mpr w)) _ ei_⟩;exact⟨by rw[HN];exact hz,_,r1.append r2,t5_⟩
end
end L2
namespace L2
open PySem PySem.Spec PyProof.Rows
def Eh(n:Nat)(i:Int):Option Nat:=if 0<=i then(if i<n then some i.toNat else none)else if -(n:Int)<=i then some (i+n).toNat else none
nonrec def atI(xs:ad_)(i:Int):Option α:=(Eh xs.length i).bind λj=>xs[j]?
def a7p(h:Eh n i=some j):seqIndex? i n=some j/\j<n/\-(n:Int)<=i/\i<n:=by
 unfold Eh at h;by_cases h0:0<=i
 .rw[HC h0]at h;by_cases Y:i<n
  .rw[HC Y]at h;have e:i.toNat=j:=IW h;exact⟨by rw[seqIndex_of h0 Y,e],m_,m_,Y⟩
  .rw[HA Y]at h;cases h
 .rw[HA h0]at h;by_cases Y:-(n:Int)<=i
  .rw[HC Y]at h;have e:(i+n).toNat=j:=IW h;exact⟨by rw[seqIndex_neg a! Y,e],m_,Y,m_⟩
  .rw[HA Y]at h;cases h
def zW(h:atI xs i=some v):∃j,seqIndex? i g!=some j/\xs[j]?=some v/\j<g!/\-it_<=i/\i<g!:=by
 unfold atI at h;cases e:Eh xs.length i with
 |none=>rw[e]at h;cases h
 |some j=>
  rw[e]at h;obtain⟨Y,h2,h3,h4⟩:=a7p e;exact⟨j,Y,h,h2,h3,h4⟩
def Ni(b:Expr):Prop:=∀o i,subscripted b false o i=operate [o,i] t8!
def Um(X:Cx)(r:R2):Prop:=
 ∀(value f8:Expr) (h1:r!) (s:yM!) (Z:St) (H:Hp) (x y:V) (v u:yB!) (Q:VK),Inv X h1 Z H s->Be x v->Be y u->r x y H Q->
  subscripted f8 false v u=operate [v,u] (getItem v u)->wpAny e! X.A (subscriptTail value f8 v u) au_ X.xe s
def FP(X:Cx)(id:String)(r:mE_):Prop:=
 ∀(h1:r!) (s:yM!) (Z:St) (H:Hp) (x:V) (xs:o!) (v:yB!) (us:j_) (Q:VK),Inv X h1 Z H s->Be x v->Aq xs us->r x xs H Q->
  wpAny e! X.A t9_ au_ X.xe s
section
variable{X:Cx}
def Um.or(h:Um X r)(h':Um X r'):Um X sv_:=by
 intro value f8 h1 s Z H x y v u Q I rx ry q hs;obtain q|q:=q
 .exact h value f8 h1 s Z H x y v u Q I rx ry q hs
 .exact h' value f8 h1 s Z H x y v u Q I rx ry q hs
def b3c{r:R2}(hr:Um X r)(ha:aH_)(hb:b1!)(hs:Ni b):PE X mG! hY!:=by intro h1 s Z H Q I h;exact Subscript_ (c6r ha hb I h λv u s2 x y H2 I2 rx ry q=>hr a b h1 s2 Z H2 x y v u Q I2 rx ry q (hs _ _))
def AO(KF:zr!):R2:=λx y H Q=>∃p xs i v,x=.ref p/\y=.int i/\Ef KF H p xs/\atI xs i=some v/\Q v H
def AM(KF:zr!):R2:=λx y H Q=>∃p xs i v,x=.ref p/\y=.int i/\Fg KF H p xs/\atI xs i=some v/\Q v H
def AN:R2:=λx y H Q=>∃z i c,x=.str z/\y=.int i/\iu!<=sizeLine/\atI z.cps.toList i=some c/\Q f0! H
def a7o:Um X (AO X.K):=by
 intro value f8 h1 s Z H x y v u Q I rx ry h hs;obtain⟨p,xs,i,z,rfl,rfl,hq,he,q⟩:=h;cases rx;obtain⟨t,rfl⟩:=ry;show"!Q";obtain⟨j,Y,h2,h3,h4,h5⟩:=zW he;obtain⟨w,ew,ax⟩:=r.get h2;have hl:=av!;have hn:=pB;have ag:EP X h1 Z Q w s:=ua_;by_cases h0:0<=i
 .have hj:i.toNat=j:=by
   rw[seqIndex_of h0 h5]at Y;exact IW Y
  exact item_listR pl.isList h0 a! ub! ag hs
 .have hj:(i+(cb!:Int)).toNat=j:=by
   rw[seqIndex_neg a! h4]at Y;rw[GW,<-hl];exact IW Y
  exact subscriptTail_builtinR (x:=w) pl.isList.typeIs ub_
   (wpAny_getItem_list_neg (Q:=uc!) pl.isList a! uc_ a! ub! ud!) hs
def c5g:Um X (AM X.K):=by
 intro value f8 h1 s Z H x y v u Q I rx ry h hs;obtain⟨p,xs,i,z,rfl,rfl,hq,he,q⟩:=h;cases rx;obtain⟨t,rfl⟩:=ry;obtain⟨its,r,pl,hz⟩:=I.tuple hq;obtain⟨j,Y,h2,h3,h4,h5⟩:=zW he;obtain⟨w,ew,ax⟩:=r.get h2;have hl:=av!;have hn:=pB;have ag:EP X h1 Z Q w s:=ua_;exact subscriptTail_builtinR (x:=w) pl.typeIs slot_tuple_getitem.lookup
  (getItem_tuple (j:=j) (Q:=uc!) pl a! a! (by rw[GW,<-hl];exact Y) (by simpa using ew) ud!) hs
def c5h:Um X AN:=by
 intro value f8 h1 s Z H x y v u Q I rx ry h hs;obtain⟨z,i,c,rfl,rfl,hz,he,q⟩:=h;obtain⟨t,rfl⟩:=rx;obtain⟨t',rfl⟩:=ry;obtain⟨j,Y,h2,h3,h4,h5⟩:=zW he;have hl:z.cps.toList.length=iu!:=by simp[Str.length]
 rw[hl]at Y h4 h5;have hn:=pB;exact tail_any (typeIs_str s z t) slot_str_getitem.lookup (getItem_str (c:=c) (by
  have e1:decide (i< -(2 ^ 63:Int))=false:=HB a!;have e2:decide (i>=2 ^ 63)=false:=HB a!;rw[e1,e2,Bool.or_false]) (by rw[Y];simpa using h2) ⟨ep!,H,aT_,I_,q⟩) hs
def DY(KF:zr!):R2:=λx y H Q=>AO KF x y H Q\/AM KF x y H Q\/AN x y H Q
def aJ:Um X (DY X.K):=a7o.or (c5g.or c5h)
def a4u(its:j_)(n j:Nat)(u:yB!):Obj.mapSeq ue! {cls:=.type "list",data:=.seq its.toArray n}={cls:=.type "list",data:=.seq (its.set j u).toArray n}:=by simp[Obj.mapSeq]
def Inv.lst(I:a_)(h:H p=some A_):
  ∃(its:j_) (n:Nat),Aq xs its/\s.heap.get? p=some {cls:=.type "list",data:=.seq its.toArray n}/\g!<=sizeLine:=by
 obtain⟨z,its,n,r,e⟩:=I.hok p _ h;exact⟨its,n,r,e,z⟩
def Inv.lstUpd{its its':j_}(I:a_)(h:H p=some A_)
  (ho:s.heap.get? p=some {cls:=.type "list",data:=.seq its.toArray n})(hf:f {cls:=.type "list",data:=.seq its.toArray n}={cls:=.type "list",data:=.seq its'.toArray n'})(r:Aq ys its')(hz:iv_)(t:Nat):
  Inv X h1 Z (upd H p aX_) {s with heap:=s.heap.update p f,toks:=t}:=by
 have e:(s.heap.update p f).get? p=some {cls:=.type "list",data:=.seq its'.toArray n'}:=by
  rw[KL f ho (by rw[hf]<;>rfl),hf]
 refine I.write (x:=p) (e:=p) (by rw[h];trivial) al_ (λb u hb q=>(uf_).trans q) bc_ ?_;exact⟨hz,its',n',r,e⟩
def AJ:V->V->V->Hp->lz!->Prop:=λo i v H Q=>∃p xs k j,o=.ref p/\i=.int k/\H p=some A_/\Eh xs.length k=some j/\Q uh!
def a0h:Ui X AJ:=by
 intro h1 s Z H o i v ov iv u Q I ro ri rv h;obtain⟨p,xs,k,j,rfl,rfl,hp,hj,q⟩:=h;cases ro;obtain⟨t,rfl⟩:=ri;obtain⟨its,n,r,ho,hz⟩:=I.lst hp;obtain⟨Y,h2,h3,h4⟩:=a7p hj;have hl:=av!;have hn:=pB;have I':Inv X h1 Z uh! {s with heap:=s.heap.update p (Obj.mapSeq ue!)}:=
  I.lstUpd hp ho (a4u its n j u) (r.set rv j) (by rw[LP];exact hz) s.toks
 by_cases h0:0<=k
 .have hk:k.toNat=j:=by
   rw[seqIndex_of h0 h4]at Y;exact IW Y
  exact W.ki_setAt ho h0 a! (by rw[GW,<-hl];exact h4) ui!
 .have hk:(k+(cb!:Int)).toNat=j:=by
   rw[seqIndex_neg a! h3]at Y;rw[GW,<-hl];exact IW Y
  exact W.ki_setBack ho a! (by rw[GW,<-hl];exact h3) a! ui!
def wW(lo hi:aA!)(n:Nat):(mI_).1=((HT.sIx n 0 lo:Nat):Int)/\(mI_).2.1=((HT.sIx n n hi:Nat):Int)/\(mI_).2.2=1:=by
 refine⟨?_,?_,rfl⟩
 .cases lo with
  |none=>simp[sliceBounds,HT.sIx]
  |some i=>
   show"!l"
   .simp only[h,JN]<;>omega
   .simp only[h,IU]<;>omega
 .cases hi with
  |none=>simp[sliceBounds,HT.sIx]
  |some i=>
   show"!l"
   .simp only[h,JN]<;>omega
   .simp only[h,IU]<;>omega
def uA(its:j_)(lo hi:aA!):slicePick its.toArray lo hi none=((its.drop (HT.sIx its.length 0 lo)).take (HT.sIx its.length its.length hi - HT.sIx its.length 0 lo)).toArray:=by obtain⟨Y,h2,h3⟩:=wW lo hi cb!;unfold slicePick;rw[Y,h2,h3];simp only[sliceRange_one,pick_run,GW]<;>rfl
def DU(KF:zr!):V->Option Int->Option Int->Hp->VK->Prop:=λx lo hi H Q=>∃a xs,x=.ref a/\Ef KF H a xs/\∀p,H p=none->Q b7_ (upd H p (.lst fY!))
def b7u:Ye X (DU X.K):=by intro h1 s Z H x v vl vu lo hi sl Q I rx hs pl pu h;obtain⟨a,xs,rfl,hx,q⟩:=h;cases rx;obtain⟨its,r,ht,hz⟩:=I.list hx;have ay:=av!;refine⟨"list",_,ub_,ht.isList.typeIs,?_⟩;refine wpAny_getItem_list_slice ht.isList hs pl pu .none d_ ?_ uc_;rw[uA,<-ay];refine⟨dp_,_,I.laid (t':=s.toks) (o:=.lst fY!) mB_ u! ?_,rfl,q _ ei_⟩;exact⟨t4_,_,0,t5!,dg_⟩
def Ks:V->Bool
 |.non=>true
 |.bl _=>true
 |.int _=>true
 |.str _=>true
 |_=>false
def Wg:V->V->Bool
 |.non,.non=>true
 |.bl a,.bl b=>a==b
 |.bl a,.int b=>uk!==b
 |.int a,.bl b=>a==uk_
 |.int a,.int b=>a==b
 |.str a,.str b=>a==b
 |_,_=>false
def c5t(ry:Be y u)(rx:Be x v)(fy:Ks y=true)(fx:Ks x=true):SeqAt.EqAt A s u v (Wg y x):=by
 cases y with
 |non=>
  cases ry;cases x with
  |non=>cases rx;exact SeqAt.EqAt.same _
  |bl b=>cases rx;exact SeqAt.EqAt.none_bool b
  |int b=>obtain⟨t,rfl⟩:=rx;exact SeqAt.EqAt.none_int b t
  |str b=>obtain⟨t,rfl⟩:=rx;exact SeqAt.EqAt.none_str b t
  |_=>exact absurd iw_ HV
 |bl a=>
  cases ry;cases x with
  |non=>cases rx;exact SeqAt.EqAt.bool_none a
  |bl b=>cases rx;exact SeqAt.EqAt.bool_bool a b
  |int b=>obtain⟨t,rfl⟩:=rx;exact SeqAt.EqAt.bool_int a b t
  |str b=>obtain⟨t,rfl⟩:=rx;exact SeqAt.EqAt.bool_str a b t
  |_=>exact absurd iw_ HV
 |int a=>
  obtain⟨t',rfl⟩:=ry;cases x with
  |non=>cases rx;exact SeqAt.EqAt.int_none a t'
  |bl b=>cases rx;exact SeqAt.EqAt.int_bool a t' b
  |int b=>obtain⟨t,rfl⟩:=rx;exact RU a t' b t
  |str b=>obtain⟨t,rfl⟩:=rx;exact SeqAt.EqAt.int_str a t' b t
  |_=>exact absurd iw_ HV
 |str a=>
  obtain⟨t',rfl⟩:=ry;cases x with
  |non=>cases rx;exact SeqAt.EqAt.str_none a t'
  |bl b=>cases rx;exact SeqAt.EqAt.str_bool a t' b
  |int b=>obtain⟨t,rfl⟩:=rx;exact SeqAt.EqAt.str_int a t' b t
  |str b=>obtain⟨t,rfl⟩:=rx;exact SeqAt.EqAt.str_str a t' b t
  |_=>exact absurd iw_ HV
 |_=>exact absurd (show false=true from fy) HV
def Xi(x:V)(u:yB!):Bool:=match u with
 |.none=>Wg .non x
 |.bool b=>Wg aI! x
 |.int i _=>Wg N! x
 |.str z _=>Wg (.str z) x
 |_=>false
def b5z(r:Be y u)(f:Ks y=true):Xi x u=Wg y x:=by
 cases y with
 |non=>cases r;rfl
 |bl b=>cases r;rfl
 |int i=>obtain⟨t,rfl⟩:=r;rfl
 |str z=>obtain⟨t,rfl⟩:=r;rfl
 |_=>exact absurd (show false=true from f) HV
def a8h(h:da_):xs.all Ks=true->us.any f1_=xs.any λy=>Wg y x:=by
 induction h with
 |nil=>exact λ_=>rfl
 |cons r _ ih=>
  intro f;rw[NE,HQ]at f;rw[MO,MO,b5z r f.1,ih f.2]
def sV(rx:Be x v)(fx:Ks x=true):∀{xs:o!} {us:j_},Aq xs us->xs.all Ks=true->∀u∈us,SeqAt.EqAt A s u v (Xi x u)
 |_,_,.nil,_=>λu hu=>by cases hu
 |y::xs,u::us,.cons r t,f=>λu' hu=>by
  rw[NE,HQ]at f;obtain rfl|hu:=GT.mp hu
  .rw[b5z r f.1];exact c5t r rx f.1 fx
  .exact sV rx fx t f.2 u' hu
def CD(x:V)(xs:o!):Bool:=xs.any λy=>Wg y x
def DZ(KF:zr!)(neg:Bool):R2:=λx y H Q=>∃p xs,y=.ref p/\(Ef KF H p xs\/Fg KF H p xs)/\Ks x=true/\xs.all Ks=true/\Q (.bl (if neg then !CD x xs else CD x xs)) H
def a9j:Fw X iy! (DZ X.K false):=by
 intro h1 s Z H x y v u Q I rx ry h;obtain⟨p,xs,rfl,hq,fx,fs,q⟩:=h;cases ry;obtain hq|hq:=hq
 .show"!Q";refine SeqAt.in_listAt f1_ pl.isList un_ eq_;rw[un!,a8h r fs];exact q
 .show"!{";refine SeqAt.in_tupleAt f1_ pl un_ eq_;rw[un!,a8h r fs];exact q
def oA:Hb X er! (λxs H Q=>∃p ys,xs=iz!/\(Ef X.K H p ys\/Fg X.K H p ys)/\∀l,H l=none->Q (.ref l) mL_):=by
 intro h1 s Z H xs us Q I r h;obtain⟨p,ys,rfl,hq,q⟩:=h;obtain⟨u,rfl,rx⟩:=mH r;cases rx;have ag:∀(its:j_),Aq ys its->P!<=sizeLine->∀(h':Heap) (c':Nat),(∀b o',s.heap.get? b=some o'->h'.get? b=some o')->
   h'.get? g_=some {cls:=.type "list",dict:=none,data:=.seq its.toArray c',slots:=#[]}->EP X h1 Z Q ba! {s with heap:=h'}:=λits r' hz h' c' kp e=>
  ⟨dp_,_,I.laid (t':=s.toks) kp u! (show Dp X.prog X.w _ h' _ aX_ from⟨hz,its,c',r',e⟩),rfl,q _ ei_⟩
 obtain hq|hq:=hq
 .obtain⟨its,r',pl,hz⟩:=I.list hq;have ay:=h2_;obtain⟨o,ho,hc,n,hd⟩:=pl.isList;exact call_list_seq p al_ ho hc hd up! up_
 .obtain⟨its,r',pl,hz⟩:=I.tuple hq;have ay:=h2_;obtain⟨o,ho,hc,n,hd⟩:=pl;exact call_list_seq p iz_ ho hc hd up! up_
def EW(KF:zr!)(T:String)(x:V)(H:Hp):Prop:=match x with
 |.str _=>T="str"
 |.int _=>T="int"
 |.ref p=>(T="list"/\∃xs,Ef KF H p xs)\/(T="tuple"/\∃o,KF.lookup p=some o/\o.cls=.type "tuple"/\o.dict=none)\/
   (T="dict"/\((∃σ,H p=some dj!)\/∃σ,H p=some iA_))\/(T="set"/\∃S n,H p=some (.set S n))
 |_=>False
def c2x{h1:r!}{Z:St}{H:Hp}{s:yM!}{T:String}(I:a_)(r:Be x v)(ty:EW X.K T x H):
  s.TypeIs v T/\∀a,v=.ref a->∃ob,s.heap.get? a=some ob/\ob.dict=none:=by
 cases x with
 |str z=>
  obtain⟨t,rfl⟩:=r;cases (show T="str" from ty);exact⟨typeIs_str s z t,us!⟩
 |int i=>
  obtain⟨t,rfl⟩:=r;cases (show T="int" from ty);exact⟨typeIs_int s i t,us!⟩
 |ref p=>
  cases r;obtain⟨rfl,xs,hq⟩|⟨rfl,o,hk,hc,hd⟩|⟨rfl,hk⟩|⟨rfl,S,n,hk⟩:=ty
  .obtain⟨its,_,pl,_⟩:=I.list hq;refine⟨pl.isList.typeIs,λa e=>?_⟩;cases e;obtain⟨o,n,e,c,hd,_⟩:=pl;exact⟨o,e,hd⟩
  .refine⟨⟨o,I.kIn p o hk,hc⟩,λa e=>?_⟩;cases e;exact⟨o,I.kIn _ o hk,hd⟩
  .have z:∃o,s.heap.get? p=some o/\hl_:=by
    obtain⟨σ,hk⟩|⟨σ,hk⟩:=hk
    .show"#,"
    .show"#,"
   obtain⟨o,e,ex⟩:=z;refine uu!;cases e2;exact uu_
  .obtain⟨o,_,_,_,e,ex,_⟩:=I.hok p _ hk;refine uu!;cases e2;exact uu_
 |_=>exact False.elim ty
def FW(KF:zr!)(T:String)(r:mE_)(to:TE)(t:TA):TE:=λZ H Q=>to Z H λx H1=>EW KF T x H1/\t Z H1 λxs H2=>r x xs H2 Q
variable{T id:String}
def a0z(pa:PlainAttrs T)(slot:Slot T name id)(vm:typeOf ek_=pure (.type "method_descriptor"))(hm:FP X id r)(ho:PE X o to)(ha:ei!)
  (iu:attributeBase o name X.env cz_=eval o X.env:=by rfl)
  (iy:((backTo ak tm!).all cH!&&(cH_).all cI!
   &&decide ((am!).length+(er_).length+f2!<30))=true:=by rfl)
  (iz:es!:=by rfl) (hs:T!:=by rfl) (ja:(ux!).any c_=false:=by rfl):
  PE X (.Call (.Attribute o name bf) am! [] ak) (FW X.K T r to t):=by
 show"!C";refine wpAny_Call_method_late iu iy iz rfl rL!;rintro v s1 ⟨x,H1,I1,r1,ty,q1⟩;obtain⟨Y,h2⟩:=c2x I1 r1 ty;refine⟨T,id,pa,slot,vm,Y,h2,?_⟩;have hA:=ha ak h1 s1 Z H1 _ I1 q1;rw[hs]at hA ⊢;refine NH (by show(false||(ux!).any c_)=false;rw[ja]<;>rfl) (MU ?_);exact cW hA λus s2 ⟨vs,H2,I2,r2,q2⟩=>hm h1 s2 Z H2 x vs v us Q I2 r1 r2 q2
end
end L2
namespace L2
open PySem PySem.Spec PyProof.Rows
def ER(X:Cx)(id:String)(r:mE_):Prop:=
 ∀(h1:r!) (s:yM!) (Z:St) (H:Hp) (x:V) (xs:o!) (v:yB!) (us:j_) (Q:VK),Inv X h1 Z H s->Be x v->Aq xs us->r x xs H Q->
  wpAny e! X.A t9_ au_ X.xe s
def Aq.one(h:Aq [x] us):∃u,us=[u]/\Be x u:=by
 cases h with
 |cons r t=>cases t;exact kR!
def Aq.eraseIdx:∀{xs:o!} {us:j_} (i:Nat),Aq xs us->Aq (xs.eraseIdx i) (us.eraseIdx i)
 |_,_,_,.nil=>.nil
 |_,_,0,.cons _ t=>t
 |_,_,i+1,.cons r t=>.cons r (Aq.eraseIdx i t)
def Aq.rep(h:da_):∀k:Nat,Aq (uy_).flatten (List.replicate k us).flatten
 |0=>.nil
 |k+1=>by
  rw[KR,KR,ND,ND];exact Aq.append h (Aq.rep h k)
def vX{α:Type}:∀(l:ad_) (i:Nat),(l.eraseIdx i).length<=bL!
 |[],_=>HK _
 |_::_,0=>JW _
 |_::r,i+1=>Nat.succ_le_succ (vX r i)
def wD(its:j_):∀(k:Nat) (acc:j_),
  List.foldl mS! acc.toArray (List.replicate k aQ!)=(acc++(uA!).flatten).toArray
 |0,acc=>by simp
 |k+1,acc=>by
  have e:acc.toArray++aQ!=(mS_).toArray:=by simp
  have e2:mS_++(uA!).flatten=acc++(List.replicate S_ its).flatten:=by
   rw[KR,ND,IY]
  rw[<-e2,<-wD its k mS_,<-e,KR,OB]
section
variable{X:Cx}
def Inv.lset{its its':j_}{n:Nat}{f:uB!}{t':Nat}(I:a_)(hH:H l=some A_)
  (e:s.heap.get? l=some {cls:=.type "list",data:=.seq its.toArray n})(hf:f aQ!=its'.toArray)(hv:Aq ys its')(hz:iv_):
  Inv X h1 Z mL_ {s with heap:=s.heap.update l uC_,toks:=t'}:=by
 have q:=PySem.IsL.update e f;rw[hf]at q;refine I.write (x:=l) (e:=l) (by rw[hH];exact trivial) al_ (λb' u hb hu=>(IG s.heap uC_ f1!).trans hu) ⟨_,q⟩ ?_;exact⟨hz,its',_,hv,q⟩
def Inv.lnew{its:j_}{t':Nat}(I:a_)(hv:Aq ys its)(hz:iv_):
  Inv X h1 Z (upd H s.heap.objs.size aX_) {s with heap:=s.heap.push {cls:=.type "list",data:=.seq aQ!},toks:=t'}:=
 I.laid uD_ u! ⟨hz,its,0,hv,dg_⟩
def Inv.fresh(I:a_):H g_=none:=I.hok.fresh u!
def Inv.lstM(I:a_)(hH:H l=some A_):g!<=sizeLine/\∃(its:j_) (n:Nat),Aq xs its/\g!=f3!/\s.heap.get? l=some {cls:=.type "list",data:=.seq its.toArray n}:=by obtain⟨z,its,n,r,e⟩:=I.hok l _ hH;exact⟨z,its,n,r,av!,e⟩
def a1g{n:Nat}(h:mT!):Builtin.List.listTooLong n=false:=by unfold Builtin.List.listTooLong;exact HB a!
def Xc:V->List V->Hp->VK->Prop:=λx vs H Q=>∃l xs y,x=.ref l/\vs=[y]/\H l=some A_/\g!<sizeLine/\Q .non (upd H l (.lst (xs++[y])))
def vV:ER X "list.append" Xc:=by intro h1 s Z H x vs v us Q I rx rv h;obtain⟨l,xs,y,rfl,rfl,hH,hz,q⟩:=h;cases rx;obtain⟨u,rfl,ru⟩:=rv.one;obtain⟨z,its,n,r,hl,e⟩:=I.lstM hH;refine RB F.slot_list_append ds! F.entry_list_append (F.args_list_append_2 _ _) (PySem.list_append l its.toArray n u iD!) mU!;refine⟨.non,_,I.lset (its':=its++[u]) hH e d_ (r.append uE_) ?_,rfl,q⟩;rw[HN,JK];omega
def Xb:V->List V->Hp->VK->Prop:=λx vs H Q=>∃l b xs zs,x=.ref l/\vs=[.ref b]/\H l=some A_/\H b=some (.lst zs)/\g!+zs.length<=sizeLine/\Q .non (upd H l uH!)
def a9w:ER X "list.extend" Xb:=by
 intro h1 s Z H x vs v us Q I rx rv h;obtain⟨l,b,xs,zs,rfl,rfl,hH,hB,hz,q⟩:=h;cases rx;obtain⟨u,rfl,ru⟩:=rv.one;cases ru;obtain⟨z,its,n,r,hl,e⟩:=I.lstM hH;obtain⟨z2,ir,n2,r2,SV,e2⟩:=I.lstM hB;have hsz:cb!+uI_<=sizeLine:=by rw[GW,GW];omega
 have xw:¬(! l3!&&Builtin.List.listTooLong (cb!+uI_))=true:=by
  rw[a1g hsz,QP];exact HV
 refine RB F.slot_list_extend ds! F.entry_list_extend (F.args_list_extend_2 _ _)
  (AutoSeq1.list_extend_list_list_0 l its.toArray n b ir.toArray n2 xw iD! a!) uJ!
 refine⟨.non,_,I.lset (its':=its++ir) hH e d_ uK! ?_,rfl,q⟩;rw[HN];omega
def DV:R2:=λx y H Q=>∃l k xs,x=.ref l/\y=.int k/\H l=some A_/\-(2 ^ 63)<=k/\k<2 ^ 63/\g!*k.toNat<=sizeLine/\
 ∀p,H p=none->Q b7_ (upd H p (.lst (List.replicate k.toNat xs).flatten))
def b9p(xs:ad_)(k:Nat):(uy_).flatten.length=k*g!:=by
 induction k with
 |zero=>simp
 |succ k ih=>rw[KR,ND,HN,ih,Nat.succ_mul,Nat.add_comm]
def b3h:Fw X sp! DV:=by
 intro h1 s Z H x y v u Q I rx ry h;obtain⟨l,k,xs,rfl,rfl,hH,Y,h2,hz,q⟩:=h;cases rx;obtain⟨t,rfl⟩:=ry;obtain⟨z,its,n,r,hl,e⟩:=I.lstM hH;have ay:cb!*k.toNat<=sizeLine:=by rw[GW,<-hl];exact hz
 have WW:¬cb!*k.toNat>uL! / 8:=by
  have:(sizeLine:Nat)<=uL! / 8:=by decide
  omega
 have WX:¬(!Builtin.List.listFitsIndex k)=true:=by
  rw[fitsIndex_both Y h2];exact HV
 have xw:¬Builtin.List.listTooLong (cb!*k.toNat)=true:=by
  rw[a1g ay];exact HV
 have qt:List.foldl mS! #[] (List.replicate (if l3!=true then 0 else k.toNat) aQ!)=(List.replicate k.toNat its).flatten.toArray:=by
  have f0:∀m:Nat,List.foldl mS! #[] (List.replicate m aQ!)=(List.replicate m its).flatten.toArray:=λm=>by
   have:=wD its m [];rw[JY]at this;show"#-"
  rw[f0];cases its with
  |nil=>simp
  |cons a r'=>rw[L_]
 refine wpAny_binaryOp_repeat_ref (T:="list") (U:="int") b_ ds! (λs'=>typeIs_int s' k t) noFill_list_mul F.fills_int_mul F.slot_int_rmul repeat_list F.slot_int_index.lookup
  (RB F.slot_int_rmul (typeIs_int s k t) F.entry_int_rmul (F.args_int_rmul_2 _ _) (int___rmul___int_list k t l its.toArray n)
   ⟨e,rfl,ds!,RB F.slot_list_mul ds! F.entry_list_mul (F.args_list_mul_2 _ _) (AutoListH.list___mul___list_int_3 l its.toArray n k t WX WW xw) mU!⟩)
 rw[qt];exact⟨.ref _,_,I.lnew (t':=s.toks) (r.rep k.toNat) (by rw[b9p,Nat.mul_comm];exact hz),rfl,q _ I.fresh⟩
end
end L2
namespace L2
open PySem PySem.Spec PyProof.Rows
section
variable [DecidableEq κ]
def Ld(σ:uO!)(k:κ):Option V:=(σ.find? λkv=>decide (kv.1=k)).map X_
def b1g{k:κ}(e:p.1=k):Ld (p::r) k=some p.2:=by simp[Ld,LG,e]
def b1h{k:κ}(e:¬p.1=k):Ld (p::r) k=Ld r k:=by simp[Ld,LG,e]
def Lu.isSome_eq(r:Lu o u):o.isSome=u.isSome:=by
 cases o with
 |none=>cases u with
  |none=>rfl
  |some _=>exact(h6!).elim
 |some _=>cases u with
  |none=>exact(h6!).elim
  |some _=>rfl
def KV.val{σ:uO!}{vs:List (κ×Value)}(r:KV σ vs)(k:κ):Lu (Ld σ k) (valueAt vs k):=by
 unfold KV at r
 induction r with
 |nil=>exact h7_
 |@cons p q ps qs h t ih=>
  obtain⟨Y,h2⟩:=h;by_cases e:p.1=k
  .have e':q.1=k:=Y.symm.trans e;have b:valueAt (q::qs) k=some q.2:=by simp[valueAt,LG,e']
   rw[b1g e,b];exact h2
  .have e':¬q.1=k:=λz=>e (Y.trans z);have b:valueAt (q::qs) k=valueAt qs k:=by simp[valueAt,LG,e']
   rw[b1h e,b];exact ih
end
def b5d(r:Be (kV k) u):(a8!).is k u=true:=by
 cases k with
 |inl i=>obtain⟨t,e⟩:=sV_;subst e;exact a1n P w i t
 |inr x=>obtain⟨t,e⟩:=sW_;subst e;exact kI P w x t
def pF:∀{ks:List Key} {us:j_},Aq mV! us->ItemsAre a8! ks us
 |[],_,r=>by rw[LZ]at r;cases r;exact .nil
 |k::ks,_,r=>by
  rw[HD]at r;cases r with
  |cons h t=>exact .cons (b5d h) (pF t)
abbrev KT(H:Hp):List kT!->List kT_->Prop:=Paired λp q=>p.1=q.1/\H q.2.1=some qd_/\Be p.2 q.2.2
section
def c7p(ok:aR!)(e:Rd H a u):Dp P w H h a u:=e.ok ok
def yX(ok:aR!)(e:H a=some (.tup mV!)):(fp_).is h ks a:=by obtain⟨_,its,r,o,Y,h2,n,h3⟩:=(show Dp P w H h a (.tup mV!)from ok a _ e);exact⟨o,aQ!,n,Y,h2,h3,by simpa using pF r⟩
def c8u(ok:aR!)(e:Rd H a iA_):ap!<=sizeLine/\db!=false/\
  ∃xs,KT H σ xs/\h.DictOfH fp_ a xs:=by
 obtain⟨z,y,xs,r,o,es,ep,Y,h2,h3,h4,h5⟩:=(show Dp P w H h a iA_ from c7p ok e);refine⟨z,y,xs,r,o,es,ep,Y,h2,h3,h4,G_,h5⟩;have all:∀{l:List kT!} {m:List kT_},KT H l m->∀x∈m,(fp_).is h x.1 x.2.1:=by
  intro l m q
  induction q with
  |nil=>intro x hx;exact nomatch hx
  |@cons p q ps qs hq t ih=>
   intro x hx;obtain e|hx:=GT.mp hx
   .subst e;exact yX ok (by rw[<-hq.1];exact hq.2.1)
   .exact ih x hx
 exact all r x hx
def tQ(ok:aR!)(e:H a=some iA_):ap!<=sizeLine/\db!=false/\
  ∃xs,KT H σ xs/\h.DictOfH fp_ a xs:=c8u ok (.inl e)
end
section
variable{X:Cx}
def Inv.big(I:a_):sysModules<g_:=by have h:mainGlobals<g_:=(I.mod.glob.keeps I.bk).lt;exact Nat.lt_trans b_ h
def c1b(I:a_)(mu:BQ (H a))(hs:uR_)(he:∃q,h'.get? a=some q)(new:Dp X.prog X.w uS! h' a ob):
  Inv X h1 Z uS! {s with heap:=h',toks:=t'}:=
 I.write (x:=a) (e:=a) mu al_ (λb q hb z=>(hs.2 b hb).trans z) he new
end
def BP(i:Expr):Prop:=∀ov iv,subscripted i false ov iv=operate [ov,iv] (getItem ov iv)
def b7n{T id:String}
  (hl:typeLookup el! "__getitem__"=pure (some ek_))(hs:BP f8)
  (h:wpAny l_ A (eval value env) (λo am=>wpAny l_ A (eval f8 env) (λi ao=>ao.TypeIs o T/\wpAny l_ A t8! Q E ao) E am) E s):
  wpAny l_ A (eval (.Subscript value f8 pos) env) Q E s:=by
 refine Subscript_ (JS h (λo am h₁=>JS h₁ (λi ao jb=>?_) λ_ _ x=>x) λ_ _ x=>x);obtain⟨hT,jb⟩:=jb;unfold subscriptTail;refine GM ?_;rw[getitemInPython_of_ne hT.not_modules];refine GM (PJ hT hl ?_);have ag:wpAny l_ A (subscripted f8 false o i) (λr de=>wpAny l_ A (letTemporaryGo value o r>>=λ_=>pure r) Q E de) E ao:=by
  rw[hs o i];exact wpAny_operating (JS jb (λr de g7=>GM (wpAny_letTemporaryGo (GP g7))) λ_ _ x=>x)
 first
  |exact GP iE_
  |exact GM (GP iE_)
  |exact GM ag
structure M1(X:Cx)(o:Expr)(m:Str)(bf:Pos)(e:Expr)(ak:Pos):Prop where
 base:attributeBase o m X.env cz_=eval o X.env
 few:((mX!).all cH!&&(cH_).all cI!
  &&decide (([e]:List Expr).length+(er_).length+f2!<30))=true
 line:mQ_=true
 trees:backTo ak uT_=[dn!]
structure M2(X:Cx)(o:Expr)(m:Str)(bf:Pos)(e f:Expr)(ak:Pos):Prop where
 base:attributeBase o m X.env cz_=eval o X.env
 few:((backTo ak uU!).all cH!&&(cH_).all cI!
  &&decide (([e,f]:List Expr).length+(er_).length+f2!<30))=true
 line:mQ_=true
 trees:backTo ak uU!=[dn!,(false,eval f X.env)]
end L2
namespace Att
open PySem PySem.W PySem.Calls PyProof.Rows
def qJ:∀(ns:v_) (vs:j_),WellAll P h vs uV!->IntsAre vs ns:=by
 intro ns
 induction ns with
 |nil=>
  intro vs w;rw[LZ]at w;cases w;exact .nil
 |cons n ns ih=>
  intro vs w;rw[HD]at w;cases w with
  |cons a b=>
   cases a;exact .cons _ _ (ih _ b)
def a8y{l:OpenLaw}(hn:iF!)
  (vn:l.row.toRowW.claim.pre args=true)(xx:WellAll P h xy args):
  ∃a vs ns,xy=[Value.ref a]/\args=[WData.list uV!]/\h.get? a=some {cls:=.type "list",data:=.seq b9_}/\IntsAre vs ns/\dk!<=n:=by
 have WY:WShape.hasAll [] args [.list .int]=true:=(uY!).1;have hc:l.pre.holds [] {args:=args}=true:=(uY!).2;obtain⟨d,r,rfl,Y,h2⟩:=hasAllW_cons WY;obtain rfl:=hasAllW_nil h2;obtain⟨xs,rfl,h3⟩:=hasW_list Y;obtain⟨ns,rfl⟩:=items_int h3;have ay:dk!<=n:=by
  unfold OpenLaw.pre at hc;have h4:(WTm.not (.lt (.lit (.int (n:Int))) (.len (.arg 0)))).holds [] {args:=[.list iG!]}=true:=by
   have h4:=(holds_andW hc).1;rw[hn]at h4;exact h4
  have h5:=condW_of h4 (w_not (w_lt w_lit (w_len_list (w_arg rfl))));rw[GY]at h5;refine Nat.le_of_not_lt λq=>?_;have q':(n:Int)<((dk!:Nat):Int):=by omega
  first
   |(rw[HF q']at h5;exact absurd h5 b_)
   |(simp at h5;omega)
 cases xx with
 |cons w1 w2=>
  cases w2;cases w1 with
  |list ho gq=>exact⟨_,_,ns,rfl,rfl,ho,qJ ns _ gq,ay⟩
def a9c(l:OpenLaw)(args:List WData):l.row.toRowW.claim.post args ew! args=true:=
 postW_of (r:=l.row.toRowW) (X:=uZ_)
  (show WShape.has [] ew! .bool=true by first|rfl|decide|simp[WShape.has,WShape.arms,WShape.armsAll])
  (show(WTm.eq .res (.lit ew!)).value [] {args:=args,res:=some ew!,after:=args}=some (.bool uZ_)from w_eq_bool (w_res rfl) w_lit) rfl
def a3c{l:OpenLaw}
  (hn:iF!)(t3:mZ!)
  (call:∀(w:yK!) (s₀ am:yM!) (mg mb:L!) (fa:yz!) (o:Obj) (pm cd bn:yB!) (a:yz!) (vs:j_) (ns:v_),
   Ground q xz [] XP w s₀ mg mb am.heap->YP w am.heap->
   am.heap.get? fa=some o->o.data=.func (docDef d.name d.params d.body d.scope pm cd bn)->am.heap.CodeRec cd d.name->mg d.name=some ew_->
   am.heap.get? a=some {cls:=.type "list",data:=.seq b9_}->IntsAre vs ns->dk!<=n->am.gens=#[]->
   codeAny (model l.prog w) callerA m0_ m1! am):
  WalkO q xz XP YP l.row.toRowW d [] m1_:=by
 intro w s₀ am mg mb G g8 fa o pm cd bn dV kV ho hd bz hD j2 hg args xy as vn hlay hrd xx hlo;obtain rfl:dV=.none:=Dflts.none hD t3;obtain rfl:kV=.none:=Dflts.noKw hD;obtain⟨a,vs,ns,rfl,rfl,ya,hints,ay⟩:=a8y hn vn xx;refine enter_call (QA (call w s₀ am mg mb fa o pm cd bn a vs ns G g8 ho (fd_plain hd) bz j2 ya hints ay hg) λr s' hq=>?_);obtain⟨rfl,h2,h3,h4⟩:=hq;exact⟨.inl ⟨m2_,m2_,[],rfl,bF!,m2_,a9c l _,λ_=>⟨iH!,λ_ hm=>(nomatch hm)⟩⟩,h2,h3,h4⟩
section
end
end Att
namespace L2
open PySem PySem.Spec PyProof.Rows
def a8p(h:u1_):Aq cJ_ vs:=by
 induction h with
 |nil=>exact .nil
 |cons n t h ih=>exact .cons ex! ih
def Je(H:Hp):Prop:=∀b,H b=none\/∃o xs,H b=some (.frz o A_)
def b4x
  (KX:KF.In am.heap)(cr:am.heap.Ns mainGlobals mg)(hb:am.heap.Ns builtinsNs mb)(WZ:∀x:Str,x≠"__name__"->mb x=bootBuiltins x)(W7:am.heap.NoLimit)(hg:am.gens=#[])
  (ha:am.heap.get? a=some {cls:=.type "list",data:=.seq b9_})(hi:u1_)(hl:sP!)(hr:m5!)
  (F:∀base:Heap,KF.In base->base.Ns mainGlobals mg->Em P w KF mg base CX k fa fd [x] sp)(W8:∀(s:yM!) (u:yB!),BindsTo s fd iI! [(x,u)])
  (jk:∀H:Hp,Je H->Ef KF H a cJ_->sp bE_ H iI_ λ_ _ _=>False)
  (t6:∀H e s',CX [] H am iJ! e s'->False):
  codeAny v! callerA m0_ m1! am:=by
 have rv:=a8p hi;have W9:=hi.length;have SW:∀H:Hp,Je H->Ef KF H a cJ_->Jx P w H am.heap->(∀b,H b≠none->b=a)->(H a≠none->KF.lookup a=none)->
   codeAny v! callerA m0_ m1! am:=by
  intro H hO hS hok hA hK;have SX:∀{b:yz!} {o:Obj},am.heap.get? b=some o->H b=none->(f6_).get? b=some o:=λe n=>b5l e n;have tz:∀{b:yz!} {o:Obj} {es:iJ_} {ep:Nat},am.heap.get? b=some o->o.data=.dict es ep->H b=none:=λ{b o es ep} e d=>by
   cases q:H b with
   |none=>rfl
   |some u=>
    have e':b=a:=hA b ce!;subst e';rw[ha]at e;cases e;have d':Data.seq vs.toArray _=Data.dict es ep:=d;cases d'
  have vo:∀{b:yz!} {m:L!},am.heap.Ns b m->(f6_).Ns b m:=λ{b m} ⟨o,es,ep,e,d,r⟩=>⟨o,es,ep,SX e (tz e d),d,r⟩;have SY:KF.In f6_:=λb o e=>SX (KX b o e) (by
   cases q:H b with
   |none=>rfl
   |some u=>
    have e':b=a:=hA b ce!;subst e';rw[hK ce!]at e;cases e)
  have hM:Mod KF mg f6_:=⟨SY,vo cr,⟨mb,vo hb,WZ⟩,let⟨mc,Y,h2⟩:=W7;⟨mc,vo Y,h2⟩⟩;have e0:Os P w KF mg f6_ callerA [] am H:=⟨rfl,hM,λb o e=>b9a e,NU (b0j _ _),trivial,λb hb=>absurd (show b∈ty! from hb) d_,hok,.of_eq hg⟩;refine QA ((F _ SY (vo cr)).run callerA [] am H m0! bE_ bE_ _ _ hr e0 (W8 am E!) (.cons rfl .nil) (jk H hO hS)) λr s' h=>?_;cases r with
  |error e=>exact(t6 H e s' h).elim
  |ok fl=>
   cases fl with
   |next=>exact False.elim h
   |brk=>exact False.elim h
   |cont=>exact False.elim h
   |ret u=>
    obtain⟨v,H',os,bare,un,XA,r',q⟩:=h;have q':v=.bl true:=q;subst q';obtain rfl:u=Value.bool true:=r';refine⟨rfl,OldK.of_keep λb o e=>?_,os,bare⟩;cases q:H b with
    |none=>exact un.keep b o e q (by intro z;exact absurd tx! d_) d_
    |some u=>
     obtain z|⟨ob,xs,z⟩:=hO b
     .rw[q]at z;cases z
     .have z2:=un.frzs b ob _ z;obtain⟨e1,_⟩:=hok b _ z;obtain⟨e2,_⟩:=XA b _ z2;rw[e]at e1;cases e1;exact e2
 cases hk:KF.lookup a with
 |some o=>
  have e:=KX a o hk;rw[ha]at e;cases e;refine SW s2_ (λ_=>.inl rfl) (.inr ⟨_,b9_,_,hk,rfl,rfl,rfl,by rw[GW,W9];exact hl,by simpa using rv⟩) (λb u z=>by have z':(none:Option HO)=some u:=z;cases z') (λb z=>absurd rfl z) λz=>absurd rfl z
 |none=>
  refine SW (λb=>if b=a then some (.frz {cls:=.type "list",data:=.seq b9_} (.lst cJ_))else none) (λb=>?_) (.inl (.inr ⟨{cls:=.type "list",data:=.seq b9_},A!⟩)) (λb u z=>?_) u6_ λ_=>hk
  .show"#>"
   .exact .inr ⟨_,_,HC hb⟩
   .exact .inl (HA hb)
  .show"#>"
   .have z':=(HC hb).symm.trans z;cases z';subst hb;exact⟨ha,u7_,vs,_,rv,ha⟩
   .have z':=(HA hb).symm.trans z;cases z'
  .show"#>"
   .exact hb
   .exact absurd (HA hb) z
end L2
namespace L2
open PySem PySem.Spec PyProof.Rows
def b7h{l:W.OpenLaw}{n k:Nat}{XP:u8_}{YP:u9!}{d:DefRec}{KF:va!}{CX:World->Yj}{sp:World->Sp}
  (hn:iF!)(jj:mT!)(t3:mZ!)(hr:m5!)
  (hY:va_)
  (F:∀(w:yK!) (mg:L!) (fa:yz!) (h:Heap),(br!).In h->h.Ns mainGlobals mg->mg d.name=some ew_->
   ∃fd:FuncData,vb!/\
    ∀base:Heap,(br!).In base->base.Ns mainGlobals mg->Em l.prog w br! mg base (CX w) k fa fd [x] (sp w))
  (jk:∀(w:yK!) (H:Hp) (a:yz!) (ns:v_),dk!<=n->Je H->Ef br! H a cJ_->sp w bE_ H iI_ λ_ _ _=>False)
  (t6:∀(w:yK!) (H:Hp) (s:yM!) (e:yB!) (s':yM!),CX w [] H s iJ! e s'->False):
  W.WalkO q xz XP YP l.row.toRowW d [] m1_:=by
 refine Att.a3c hn t3 λw s₀ am mg mb fa o pm cd bn a vs ns G g8 ho hd bz j2 ya hints ay hg=>?_;have KX:=hY w _ g8;obtain⟨fd,hb,hF⟩:=F w mg fa _ KX G.T.g j2;exact b4x KX G.T.g G.T.b G.T.builtins G.T.nolimit hg ya hints (IL ay jj) hr hF hb (λH hO hS=>jk w H a ns ay hO hS) λH e s'=>t6 w H am e s'
def b1f{l:W.OpenLaw}{n k:Nat}{XP:u8_}{YP:u9!}{d:DefRec}{KF:va!}{CX:Yj}{sp:W.Frag->Sp}
  (hn:iF!)(jj:mT!)(t3:mZ!)(hr:m5!)
  (hY:va_)
  (F:∀(w:yK!) (mg:L!) (fa:yz!) (h:Heap),(br!).In h->h.Ns mainGlobals mg->mg d.name=some ew_->
   ∃fd:FuncData,vb!/\
    ∀base:Heap,(br!).In base->base.Ns mainGlobals mg->Em l.prog w br! mg base CX k fa fd [x] (sp br!))
  (jk:∀(KF:zr!) (H:Hp) (a:yz!) (ns:v_),dk!<=n->Je H->Ef KF H a cJ_->sp KF bE_ H iI_ λ_ _ _=>False)
  (t6:∀(H:Hp) (s:yM!) (e:yB!) (s':yM!),CX [] H s iJ! e s'->False):
  W.WalkO q xz XP YP l.row.toRowW d [] m1_:=
 b7h (KF:=KF) (CX:=λ_=>CX) (sp:=λw=>sp br!) hn jj t3 hr hY F (λw H a ns Y h2 h3=>jk br! H a ns Y h2 h3) λ_ H s e s'=>t6 H s e s'
end L2
namespace L2
open PySem PySem.Spec PyProof.Rows
def Eo(s:Stmt):Arguments:=match s with
 |.FunctionDef _ a _ _ _ _ _ _ _ _=>a
 |_=>{posonlyargs:=[],args:=[],vararg:=none,kwonlyargs:=[],kw_defaults:=[],kwarg:=none,defaults:=[]}
def Cc(s:Stmt):List Stmt:=match s with
 |.FunctionDef _ _ b _ _ _ _ _ _ _=>b
 |_=>[]
def Ae(s:Stmt):Scope:=match s with
 |.FunctionDef _ _ _ _ _ _ sc _ _ _=>sc
 |_=>{kind:=.function,names:=[],isGenerator:=false,isCoroutine:=false}
abbrev Ng:Yj:=λ_ _ _ _ _ _=>False
abbrev E0:XK:=λ_ _ _=>False
def vL:Jw Ng X E0:=λ_ _ _ _ _ _ _ h=>h.elim
structure Wb(KF:zr!)(x qual:Str)(st:Stmt)(f:yz!)(fd:FuncData):Prop where
 ex:∃(oc:yB!) (od:ez!) (kV bn pm:yB!) (an:ez!) (ah ct:yB!) (iq:Array m9!),
  fd=W.fnOf x qual iL! be! aY! .none kV bn pm an ah ct/\KF.lookup f=some ⟨oc,od,.func fd,iq⟩/\W.codeIn KF ah qual=true
 kp:W.keepIn KF ah_=true
section
def Wb.ok{st:Stmt}(F:ve!)(S:cK!)(len:tD_)
  (qq:∀(ah:yB!) (A:yA!) (outer:ai!) (s:yM!) (H:Hp) (vs:o!) (Q:VK) (E:XK),Ah k (A.deeper (envOfC qual aY! s.heap.objs.size f ah))->sp vs H Q E->
   ∃t,Lx (Hf Ng P w KF mg base N qual aY! f ah A outer s H E).nox be! t/\t {nx:=λ_ H'=>Q .non H',rt:=Q} fU! H):Em P w KF mg base Ng S_ f fd ps sp:=by
 show"!D";refine c2m lk bz S len λA outer s H vs Q E hr jk=>?_;obtain⟨t,h,q⟩:=qq ah A outer s H vs Q E hr jk;exact⟨t,h.nox,q⟩
def Wb.binds{st:Stmt}(F:ve!)
  (h:ve_):Ec KF fd ps []:=by
 show"!D";exact .all (h kV bn pm an ah ct)
def lV{st:Stmt}{kV:yB!}(l:vg!)
  (c:il!)(k:f8!):Wb KF x qual st f na!:=⟨⟨oc,od,kV,bn,pm,an,ah,ct,iq,rfl,l,c⟩,k⟩
end
def a8t(h:n<=1000):n<sizeLine:=JO h b_
def jT{A B:Prop}(h:B):if false=true then A else B:=by rw[HA HV];exact h
def jS{A B:Prop}(h:A):if true=true then A else B:=by rw[A!];exact h
def Ar(H H':Hp):Prop:=∀b o,H b=some o->H' b=some o
def Ar.refl(H:Hp):Ar H H:=λ_ _ h=>h
def Ar.trans(a:Ar H H1)(b:Ar H1 H2):Ar H H2:=λc o h=>b c o (a c o h)
def Ar.free(e:ez_)(h:H' l=nb!):H l=nb!:=by
 cases q:H l with
 |none=>rfl
 |some o=>
  rw[e l o q]at h;cases h
def Ar.seq(e:ez_)(h:Ef KF H a xs):Ef KF H' a xs:=by
 rcases h with(h|⟨o,h⟩)|h
 .exact vi!
 .exact vj!
 .exact .inr h
end L2
namespace L2
open PySem PySem.Spec PyProof.Rows
def Inv.track{D:yz!}(I:a_)
  (hD:s.heap.get? D=some {cls:=.type "list",data:=.seq us.toArray n})(r:Aq ys us)(hz:iv_)(hn:H D=none)(hs:dc_<=D)(hL:D≠X.env.locals)
  (hc:∀x c,X.env.cells.lookup x=some c->c≠D)(hp:∀p∈X.pn++h1,p.1≠D):Inv X h1 Z (upd H D aX_) s:=by
 have ne:∀b u,H b=some u->b≠D:=λb u e=>cD e hn;refine I.step (g':=s.gens) (d':=s.drawn) (t':=s.toks) (h':=s.heap) (ch:=[D]) fx_ (λb o _ _ _ e _=>e) (λb o _ _ _ e _=>vk!) (λb o hc e n=>?_) (λb o _ e=>⟨o,e⟩)
  (λb xs e=>by rw[ne_];exact e) (λb o u e=>by rw[ne_];exact e) (λb ps e=>⟨#[],by rw[ne_,e];simp⟩) nf! qN! I.bare
 .have e:b=D:=by simpa using hb
  subst e;exact⟨.inr hs,hL,hc,hp⟩
 .rw[nf_];exact n
 .by_cases hb:b=D
  .show"!s";exact⟨hz,us,n,r,hD⟩
  .rw[dc!]at e;exact(lg_).stay ng! (λc q=>by rw[vl_];exact q) λc xs q=>by rw[vl_];exact q
nonrec def closOf(cells:bN_):List vm!->List eA_->List eA_
 |[],acc=>acc
 |(n,k)::r,acc=>if k==.free then closOf cells r ((n,(cells.lookup n).getD 0)::acc)else closOf cells r acc
structure Xr(X:Cx)(scope:Scope)(cl:bN_):Prop where
 eq:closureFor scope X.env=pure cl
 sub:∀x c,cl.lookup x=some c->X.env.cells.lookup x=some c
 all:∀x,scope.names.lookup x=some .free->∃c,cl.lookup x=some c
def pN:∀(names:eB!) (acc:bN_),(∀p∈names,p.2=.free->∃c,env.cells.lookup p.1=some c)->
  (forIn names acc λx r=>(match x with|(name,kind)=>if(kind==f8_)=true then(do let a <-cellOf env name;pure vn_)else pure iN!:Sem vo_))=(pure (closOf env.cells names acc):Sem (List eA_))
 |[],acc,_=>rfl
 |(n,k)::r,acc,h=>by
  rw[LQ];cases hk:(k==f8_)with
  |true=>
   obtain⟨c,hc⟩:=h eB_ GR vq!;have cb:env.cells.lookup n=some c:=hc;have e:cellOf env n=pure c:=by unfold cellOf;rw[cb]
   have ih:=pN r vq_ λp hp=>h p iN_;have e2:closOf env.cells (eB_::r) acc=closOf env.cells r vq_:=by
    show vr!;rw[aV!,cb];rfl
   rw[e2,<-ih];simp only[hk,JN,e];rfl
  |false=>
   have ih:=pN r acc λp hp=>h p iN_;have e2:closOf env.cells (eB_::r) acc=closOf env.cells r acc:=by
    show vr!;rw[HA (by rw[hk];exact HV)]
   rw[e2,<-ih];simp only[hk];rfl
def lZ(cells:bN_):∀(names:eB!) (acc:bN_),(∀p∈names,p.2=.free->∃c,cells.lookup p.1=some c)->(∀p∈acc,cells.lookup p.1=some p.2)->∀p∈closOf cells names acc,cells.lookup p.1=some p.2
 |[],_,_,h=>h
 |(n,k)::r,acc,hn,h=>by
  unfold closOf;split
  .rename_i hk;obtain⟨c,hc⟩:=hn eB_ GR vq!;refine lZ cells r _ vs! λp hp=>?_;obtain rfl|hp:=GT.mp hp
   .have cb:cells.lookup n=some c:=hc;rw[cb];rfl
   .exact h p hp
  .exact lZ cells r _ vs! h
def mE(cells:bN_):∀(names:eB!) (acc:bN_) (x:Str),(∃c,(x,c)∈acc)->∃c,(x,c)∈closOf cells names acc
 |[],_,_,h=>h
 |(n,k)::r,acc,x,h=>by
  unfold closOf;split
  .exact mE cells r _ x (let⟨c,hc⟩:=h;⟨c,GO _ hc⟩)
  .exact mE cells r _ x h
def mD(cells:bN_):∀(names:eB!) (acc:bN_) (x:Str),(x,f8_)∈names->∃c,(x,c)∈closOf cells names acc
 |[],_,_,h=>nomatch h
 |(n,k)::r,acc,x,h=>by
  unfold closOf;obtain h|h:=GT.mp h
  .cases h;rw[ga!];exact mE cells r _ _ ⟨_,GR⟩
  .split
   .exact vt_
   .exact vt_
def lL:∀{l:List (Str×β)} {x:Str} {c:β},(x,c)∈l->∃d,l.lookup x=some d
 |[],_,_,h=>nomatch h
 |(n,k)::r,x,c,h=>by
  cases hx:(x==n)with
  |true=>exact⟨k,by simp[II,hx]⟩
  |false=>
   obtain h|h:=GT.mp h
   .cases h;simp at hx
   .obtain⟨d,hd⟩:=lL h;exact⟨d,by simp[II,hx,hd]⟩
def a8c(h:∀p∈bO!,p.2=.free->∃c,X.env.cells.lookup p.1=some c):∃cl,Xr X scope cl:=by
 refine⟨closOf X.env.cells scope.names [],?_,la_,λx e=>?_⟩
 .have e:=pN (env:=X.env) scope.names [] h;simp only[closureFor];rw[show(forIn scope.names ([]:List eA_) λx r=>(match x with|(name,kind)=>if(kind==NameKind.free)=true then(do let a <-cellOf X.env name;pure vn_)else pure iN!:Sem vo_))=pure (closOf X.env.cells scope.names [])from e];rfl
 .exact lZ X.env.cells scope.names [] h qJ_ (x,c) (LO e)
 .obtain⟨c,hc⟩:=mD X.env.cells scope.names [] x (LO e);exact lL hc
def Lb(X:Cx)(scope:Scope)(cl:bN_)(C:yz!)(N:D!)(ao:yM!)(be:Hp)(fp:aS!):Cx:=
 {X with N:=N,s₀:=ao,H₀:=be,env:=compEnvC scope cl C X.env,outer:=X.stack,stack:=X.stack,ex:=fp,fn:=λ_=>false,pn:=[],xe:=λ_ _=>False}
def kL{env:Env}:∀{names:eB!} {x:Str},(∀y∈names,y.2≠.cell)->
  ((iO_).lookup x=some .cell\/
     (iO_).lookup x=some .free)->names.lookup x=some .free
 |[],_,_,h=>by simp at h
 |(n,k)::r,x,hc,h=>by
  have ih:=@kL env r x λy hy=>hc y cL!;have hk:k≠.cell:=hc eB_ GR;rw[HD]at h;by_cases hf:ng_=true
  .simp only[hf,JN]at h;cases hx:x==n with
   |true=>
    simp only[II,hx];simp only[HQ,JC]at hf;rw[hf.1.1]
   |false=>
    simp only[II,hx]at h ⊢;exact ih h
  .simp only[hf]at h;cases hx:x==n with
   |true=>
    simp only[HX,IU,II,hx]at h ⊢;obtain h|h:=h
    .cases h;exact absurd rfl hk
    .exact h
   |false=>
    show"#3";exact ih h
def kM{env:Env}:∀{names:eB!} {x:Str},names.lookup x=some .free->
  ((iO_).lookup x=some .cell\/
     (iO_).lookup x=some .free)
 |[],_,h=>by simp at h
 |(n,k)::r,x,h=>by
  have ih:=@kM env r x;rw[HD];by_cases hf:ng_=true
  .simp only[hf,JN];cases hx:x==n with
   |true=>exact .inl (by simp[II,hx])
   |false=>
    simp only[II,hx]at h ⊢;exact ih h
  .simp only[hf];cases hx:x==n with
   |true=>
    show"#3";exact .inr h
   |false=>
    show"#3";exact ih h
structure Cs(X:Cx)(scope:Scope)(NF:D!)(ix:l!):Prop where
 len:NF.length=ix.length
 at_:∀(k:Nat) (x:Str),NF[k]?=some x->∃j,ix[k]?=some j/\X.N[j]?=some x/\scope.names.lookup x=some .free/\qw!
def Cs.nil:Cs X scope [] []:=⟨rfl,λk x e=>by simp at e⟩
def Cs.cons(h:cL_)(Y:vw!:=by rfl)(h2:scope.names.lookup x=some .free:=by rfl)
  (h3:X.env.kindOf x=some .cell\/X.env.kindOf x=some .free:=by first|exact Or.inl rfl|exact Or.inr rfl):Cs X scope (x::NF) (j::ix):=
 ⟨by simp[h.len],λk y e=>by
  cases k with
  |zero=>simp at e;subst e;exact⟨j,rfl,Y,h2,h3⟩
  |succ k=>simpa using h.at_ k y ct_⟩
def Mr(nl:Nat)(ix:l!)(Z:St):St:=List.replicate nl none++ix.map λj=>(Z[j]?).join
def c6g
  (cx:cM!)(cj:cM_)(ce:nh_)(I2:ni!)(f2:nj!)(flt:vz!)(hC:I!<=C):
  (Lb X scope cl C N s2 H2 fp).Ok where
 mod:=I2.ok.mod
 kind:=cx
 glob:=I2.ok.glob
 blt:=I2.ok.blt
 above:=hC
 inj:=λx y c Y h2=>I2.ok.inj x y c (ce.sub x c Y) (ce.sub y c h2)
 has:=λx h=>ce.all x (kL cj h)
 cab:=λ_ _ h=>nomatch h
 hd:=I2.ok.hd
 frames:=I2.ok.frames
 stk:=.inl rfl
 exf:=λb hb=>⟨IH (HY iR! hC),λx c h=>(dh_).2.2.2.2.1 x c ga_⟩
 bs:=I2.bs
 bsz:=IL I2.ok.bsz I2.sz
 noex:=λb o e hb=>by
  obtain z|z:=(dh_).2.2.2.1
  .exact I2.ok.noex b o e z
  .exact absurd (HY cw! (IL I2.ok.bsz z)) db_
 exfs:=λb hb hf=>by
  obtain⟨_,f1,f3,_⟩:=f2 b hb;obtain z|z:=GT.mp (I2.stkSub b hf)
  .exact f1 z
  .exact f3 z
 funs:=I2.stack
 frf:=I2.stkFree
def b5k{D:yz!}
  (cx:cM!)(cj:cM_)(ce:nh_)(cap:cL_)(I2:ni!)(f2:nj!)(flt:vz!)
  (hC:I!<=C)(hD:I!<=D)(jm:D≠C)(old:∀b u,s2.heap.get? b=some u->h₁.get? b=some u)(hn:h₁.Ns C m)(xr:h₁.get? D=some oD)(xt:∀v,oD.data≠.cell v):
  Inv (Lb X scope cl C gb! s2 H2 fp) (bP!++[(D,oD)]) nl! H2 {s2 with heap:=h₁,toks:=t}:=by
 refine⟨c6g cx cj ce I2 f2 flt hC,rfl,I2.bare,Un.kept old,⟨m,hn,qI!⟩,λx c h=>?_,I2.hok.fresh hC,λx c h=>I2.freeC x c ga_,bC!,I2.hok.kept old,?_⟩
 .have SZ:gb![i]?=some x:=e1;unfold Mr at e2;by_cases hi:i<NL.length
  .rw[ik!,KJ]at e2;rw[HC hi]at e2;cases e2
  .rw[ek!,IK,MB]at e2;rw[ek!]at SZ;obtain⟨j,hj,hN,hf,hk⟩:=cap.at_ _ _ SZ;rw[hj]at e2;have vp:(Z[j]?).join=some v:=IW e2;have e4:Z[j]?=some aG!:=by
    cases q:Z[j]? with
    |none=>rw[q]at vp;cases vp
    |some o=>rw[q]at vp;exact congrArg some vp
   obtain⟨m2,_,hl⟩:=I2.loc;have hv:Ut X.env.scope x:=hk.elim (λz=>.inr du!) λz=>.inr du_;obtain⟨u,r,l⟩:=hl j x v hN e4 hv;refine⟨u,r,.inr ?_⟩;obtain⟨k,_⟩|⟨_,c,hc,z⟩:=l
   .obtain z|z:=hk
    .rw[z]at k;cases k
    .rw[z]at k;cases k
   .obtain⟨c',cb⟩:=ce.all x hf;have e5:=ce.sub x c' cb;rw[hc]at e5;cases e5;obtain⟨o,ho,hd⟩:=z;exact⟨kM hf,c,cb,⟨o,old _ _ ho,hd⟩⟩
 .obtain⟨v,o,ho,hd⟩:=I2.cell x c ga_;exact⟨v,o,old _ _ ho,hd⟩
 .have TB:∀b,b≠X.env.locals->b∉X.fs->b∉frs X.stack:=λb Y h2 h3=>(GT.mp (I2.stkSub b h3)).elim Y h2;have cf:p∈bP!++[(D,oD)]:=by simpa[Lb]using hp
  obtain cf|cf:=GS.mp cf
  .obtain⟨e,n,ne,nf,d⟩:=I2.pin p cf;exact⟨old _ _ e,n,IH (HY cw! hC),TB _ ne nf,d⟩
  .have e:p=(D,oD):=by simpa using cf
   subst e;exact⟨xr,I2.hok.fresh hD,jm,TB _ (LY (HY I2.lt hD)) (I2.nofs hD),xt⟩
 .show(nl!).length=(gb!).length;unfold Mr;rw[HN,HN,GY,MB,cap.len]
def zT(I:Nat->Shared->Prop)
  (hE:∀e s',E e s'->notedBy l_ A env (λe s'=>R (.error e) s') e s')
  (turn:∀n s,I n s->wpAny l_ A (pyNext it) (λr am=>match r with
   |none=>R (.ok .next) am
   |some v=>wpAny l_ A (letOwnedTupleGo vf it v) (λ_ TC=>wpAny l_ A (assign vf env v) (λ_ ao=>
     wpAny l_ A (forIn df true λc r=>if r=true then do let ok <-isTrue c env (eval c env);pure vF! else pure iN!) (λok de=>
      if ok=true then wpAny l_ A (eval d7 env) (λx vq=>
       wpAny l_ A (call (.builtin "list.append") [acc,x]) (λ_ TD=>∃m,m<n/\I m TD) E vq) E de
      else∃m,m<n/\I m de) E ao) E TC) E am) E s)
  (n:Nat) (h:I n s):codeAny l_ A (.compLoop (.ListComp d7 [⟨vf,iter,df,0⟩] scope pos) 0 it acc env) R s:=by
 refine codeAny_loop rfl I (λn s hI=>?_) n h;refine wpAny_noted ?_;rw[compTurn_list];refine GM (QM (GM (JS (turn n s hI) (λr am h₁=>?_) hE)));cases r with
 |none=>exact GP h₁
 |some v=>
  refine GM (JS h₁ (λ_ TC XB=>?_) hE);refine GM (JS XB (λ_ ao jb=>GM (JS jb (λok de g7=>?_) hE)) hE);cases ok with
  |false=>exact GP ⟨rfl,g7⟩
  |true=>
   exact GM (GM (JS g7 (λx vq jn=>GM (JS jn (λ_ TD j3=>GP (GP ⟨rfl,j3⟩)) hE)) hE))
def Nf(X:Cx)(df:cx_)(t:TT):Prop:=
 ∀(h1:r!) (s:yM!) (Z:St) (H:Hp) (Q:dd!),Inv X h1 Z H s->t Z H Q->
  wpAny e! X.A (forIn df true λc r=>if r=true then do let ok <-isTrue c X.env (eval c X.env);pure vF! else pure iN!) hF! X.xe s
def Zx:TT:=λ_ H Q=>Q true H
def a0w:Nf X [] Zx:=λh1 s Z H Q I h=>wpAny_tests_nil ⟨H,I,h⟩
def a0v(h:PT X c t):Nf X [c] t:=λh1 s Z H Q I hw=>wpAny_tests_one rt_
def Ts(J:It)(g:TG)(tt:TT)(te:TE)(Fin:cx!)(Z:St)(H:Hp):Prop:=∃W:Nat->Nat->List V->St->Hp->Prop,(∃m,W 0 m [] Z H)/\∀i m ys Z H,W i m ys Z H->P!<=sizeLine/\
 ((J.stop i H/\Fin ys H)\/(J.go i H/\∀x H',J.yld i H x H'->g x Z H' λcm H2=>tt cm H2 λb H3=>if b=true then te cm H3 λy H4=>∃m',m'<m/\W S! m' (ys++[y]) cm H4 else∃m',m'<m/\W S! m' ys cm H3))
abbrev Rn(us:j_)(n:Nat):Obj:={cls:=.type "list",data:=.seq us.toArray n}
def wK
  {Fin:cx!}{RR:Value->Addr->Result->Shared->Prop}
  (cx:cM!)(cj:cM_)(ce:nh_)(cap:cL_)(calm:aq_)
  (hg:∀C ao be fp,PG bQ! tg g)(hi:∀C ao be fp,Nf bQ! df tt)(he:∀C ao be fp,PE bQ! d7 te)
  (I2:ni!)(T:Qm X.prog X.w X.K tg J fp it tn)(bh:tn 0 s2.heap)(f2:nj!)(hw:Ts J g tt te Fin nl! H2)
  (XC:∀(D C:yz!) (us:j_) (n:Nat) (ys:o!) (H':Hp) (s':yM!),Inv X h1 Z H' s'->s'.heap.get? D=some (Rn us n)->Aq ys us->P!<=sizeLine->H' D=none->I!<=D->I!<=C->D≠C->H' C=none->
   (∃m,s'.heap.Ns C m)->Fin ys H'->RR aB_ C (.ok .next) s'):
  wpAny e! X.A (newList []) (λacc de=>wpAny e! X.A (newFunctionEnv scope X.env.globals cl [] X.env.qual none .none (some X.env)) (λTH vq=>
   codeAny e! X.A (.compStart gc! 0 b4_ acc {TH with scope:=relabel scope X.env}) (RR acc TH.locals) vq) E de) E s2:=by
 obtain⟨W,⟨m0,w0⟩,turn⟩:=hw;have flt:∀b∈fp,b<I!:=λb hb=>let⟨o,e,_⟩:=T.obj _ _ bh b hb;HP e;refine JX (wpAny_newFunctionEnv cj (by intro y hy;simp at hy) (λh₁ yb vt=>?_) cx);dsimp only at yb vt ⊢;generalize yc:s2.heap.push {cls:=.type "list",dict:=none,data:=.seq (vQ_).toArray}=G2 at yb vt ⊢;have hC:gc_=I!+1:=by rw[<-yc,MN]
 have jm:I!≠gc_:=by rw[hC];exact IH (OL _)
 have TJ:I!<=gc_:=by rw[hC];exact JW _
 have TK:∀b,b<I!->b≠gc_:=λb hb=>by rw[hC];exact IH (PQ hb)
 have old:∀b o,s2.heap.get? b=some o->h₁.get? b=some o:=λb o e=>vt.extBut b o (TK b cw!) (GQ _ (yc▸GQ _ e));have XD:h₁.get? I!=some (Rn [] 0):=vt.extBut _ _ jm (GQ _ (yc▸HM _ rfl));have qu:tn 0 h₁:=T.keep _ _ _ bh λb _ o e=>old b o e;have I1:=b5k (NL:=NL) (t:=s2.toks+(vR!).length) cx cj ce cap I2 f2 flt TJ u! jm old yb XD vR_;have nr:∀{H':Hp} {oD:Obj},fF!->∀b∈fp,Eu dw! (bP!++[(I!,oD)]) H' b:=λ{H' oD} hn b hb=>by
  obtain⟨_,f1,f3,f4,f5,f6⟩:=f2 b hb;refine⟨hn b hb,TK b iR!,λz=>(GT.mp (I2.stkSub b z)).elim f1 f3,.inl hb,λx c h=>f5 x c ga_,bC!⟩;have cf:p∈bP!++[(I!,oD)]:=by simpa[Lb]using hp
  obtain cf|cf:=GS.mp cf
  .exact f6 p cf
  .have e:p=(I!,oD):=by simpa using cf
   subst e;exact LY iR!
 have TL:∀de:Shared,de={s2 with heap:=h₁,toks:=s2.toks+(vR!).length}->
   codeAny e! X.A (.compLoop gc! 0 b4_ (.ref I!) (compEnvC scope cl G2.objs.size X.env)) (RR (.ref I!) gc_) de:=by
  rintro de rfl;refine zT (E:=vT!) (λk s'=>∃i ys us n ae H',Inv dw! vT_ ae H' s'/\tn i s'.heap/\fF!/\Aq ys us/\W i k ys ae H')
   (λ_ _ z=>z.elim) ?_ m0 ⟨0,[],[],0,_,H2,I1,qu,se!,.nil,w0⟩
  rintro k s' ⟨i,ys,us,n,ae,H',I',ac,qz,rv,w'⟩;obtain⟨ay,ye⟩:=turn i k ys ae H' w';obtain⟨stop,ag⟩|⟨go,step⟩:=ye
  .refine cW (T.done dw! rfl rfl rfl calm i _ s' ae H' _ I' (nr qz) ac stop) λr s4 ⟨hr,I4⟩=>?_;subst hr;have TM:=I4.pin no! (by simp[Lb]);have IX:Inv X h1 Z H' s4:=I2.call' (ch:=fp) I4.os I4.base I4.hok I4.bare λb hb=>by
    obtain⟨_,f1,f3,f4,f5,f6⟩:=f2 b hb;exact⟨f4,f1,f5,f6⟩
   obtain⟨mC,XE,_⟩:=I4.loc;exact XC _ _ us n ys H' s4 IX TM.1 rv ay TM.2.1 u! TJ jm I4.free ⟨mC,XE⟩ ag
  .refine cW (T.item dw! rfl rfl rfl calm i _ s' ae H' _ I' (nr qz) ac go) λr s4 ⟨u,hr,h4⟩=>?_;subst hr;refine cW h4 ?_;rintro _ s5 ⟨x,H5,I5,r5,y5,ny,xm⟩;have xo:=I5.pinned (nr xm) se_;refine cW (hg _ _ _ _ _ s5 ae H5 x u _ xo r5 sf!) ?_;rintro _ s6 ⟨lp,H6,I6,q6⟩;refine cW (hi _ _ _ _ _ s6 lp H6 _ I6 q6) λok s7 ⟨H7,I7,q7⟩=>?_;have TN:∀{TQ:St} {H8:Hp} {s8:yM!},Inv dw! (vT_++Od fp s5.heap) TQ H8 s8->tn S! s8.heap/\∀b∈fp,H8 b=none:=λ{TQ H8 s8} I8=>by
    refine⟨T.keep _ _ _ ny λb hb o e=>(vU_).1,bD_⟩;obtain⟨o,e,d⟩:=T.obj _ _ ny b hb;exact(vU_).2.1
   cases ok with
   |false=>
    simp only[HX,IU]at q7 ⊢;obtain⟨m',hm,w7⟩:=q7;obtain⟨t7,n7⟩:=TN I7;exact⟨m',hm,i+1,ys,us,n,lp,H7,hX_,t7,n7,rv,w7⟩
   |true=>
    simp only[JN]at q7 ⊢;refine cW (he _ _ _ _ _ s7 lp H7 _ I7 q7) ?_;rintro yv s8 ⟨y,H8,I8,r8,m',hm,w8⟩;obtain⟨t8,n8⟩:=TN I8;have pD:=I8.pin no! (GV _ (GU _ d_));have XG:W_=P!:=rv.length.symm;refine wpAny_list_append_plain (items:=cf!) (hsz:=by simpa[XG]using ay) ⟨n,pD.1⟩ λh9 XH TR=>?_;obtain⟨n9,e9⟩:=XH;have XI:Inv dw! bP! lp H8 s8:=I8.pins_of λp hp=>I8.pin p (GV _ (GU _ hX!));have I9:Inv dw! bP! lp H8 {s8 with heap:=h9,toks:=s8.toks}:=by
     refine XI.turned (it:=I!) (λb o hb e=>(TR.2 b hb).trans e) pD.2.1 jm (.inr u!) (λx c h=>?_) λp hp=>?_
     .obtain⟨v,o,ho,_⟩:=I2.cell x c ga_;exact IH hv!
     .have cf:p∈X.pn++h1:=by simpa[Lb]using hp
      exact IH (HP (I2.pin p cf).1)
    have XJ:h9.get? I!=some (Rn (us++[yv]) n9):=by
     rw[e9,List.push_toArray]
    refine⟨m',hm,i+1,ys++[y],us++[yv],n9,lp,H8,I9.pins_of λp hp=>?_,T.keep _ _ _ t8 λb hb o e=>(TR.2 b (IH iR!)).trans e,n8,rv.append (.cons r8 .nil),w8⟩;obtain hp|hp:=GS.mp hp
    .exact I9.pin p (GV _ hp)
    .have e:p=(I!,Rn (us++[yv]) n9):=by simpa using hp
     subst e;exact⟨XJ,pD.2.1,pD.2.2.1,pD.2.2.2.1,ge_⟩
 exact codeAny_compStart_list (TL _ rfl) (T.self _ 0 _ _ _ qu (TL _ rfl))
def Xw(nl:Nat)(ix:l!)(wi:TI)(g:TG)(tt:TT)(te:TE):TE:=λZ H Q=>wi Z H λJ H1=>Ts J g tt te (λys H'=>∀p,H' p=none->Q b7_ (upd H' p aX_)) vZ_ H1
def a6q{X:Cx}{scope:Scope}{NL:D!}{ix:l!}{wi:TI}{g:TG}{tt:TT}{te:TE}
  (cx:cM!)(cj:cM_)(j4:∀y∈bO!,y.2=.local->scope.names.lookup y.1=some .local)
  (g6:gf!)(cap:cL_)(calm:aq_)(al:lN!)
  (hg:gf_)(hi:v0_)(he:v1!)
  (hs:b5_:=by intro _;rfl):
  PE X gc! v1_:=by
 show"!C";show"!a"
 rw[eval_ListComp];refine wpAny_comprehension_free (use:=none) rfl hs ce.eq cx j4 v3!;obtain⟨it,fp,tn,J,H2,e,I2,T,bh,f2,hw⟩:=h2;subst e;refine wK (RR:=λacc C=>compPost e! X.A X.xe none au_ acc C) cx cj ce cap calm (hg cl) (hi cl) (he cl) I2 T bh f2 hw λD C us n ys H' s' I' eD rv ay nD hD hC jm nC ⟨m,hn⟩ ag=>?_;refine⟨m,hn,v4_⟩;have fm:∀b,b<I!->b≠C/\b≠D:=λb hb=>v6!;have q8:∀x c,X.env.cells.lookup x=some c->c<I!:=λx c h=>let⟨_,_,ho,_⟩:=I2.cell x c h;HP ho;have t9:∀p∈X.pn++h1,p.1<I!:=λp hp=>HP (Ck!).1;have IC:Inv X h1 Z H' {s' with heap:=h',toks:=s'.toks}:=I'.turned (it:=C) v7! nC (IA (gg!).1) v9! wa_ λp hp=>(iV_).1;have ID:=IC.track (D:=D) (us:=us) (n:=n) ((fh.2 D jm).trans eD) rv ay nD wb! (IA (gg!).2) wc! λp hp=>(iV_).2;exact⟨.ref D,_,ID,rfl,ag D nD⟩
end L2
namespace DL
open PySem PySem.Spec PyProof.Rows L2
abbrev St:=L2.St
inductive D where
 |non|bl (b:Bool)|int (i:Int)|str (x:Str)|tup (xs:b!)|lst (xs:b!)|fn (a:yz!)|dk (σ:List ns_)
mutual
noncomputable def Aj(KF:zr!)(H:Hp):D->V->Prop
 |.non,v=>v=V.non
 |.bl b,v=>v=V.bl b
 |.int i,v=>v=V.int i
 |.str x,v=>v=V.str x
 |.tup xs,v=>∃a vs,v=V.ref a/\Fg KF H a vs/\Af KF H xs vs
 |.lst xs,v=>∃a vs,v=V.ref a/\Ef KF H a vs/\Af KF H xs vs
 |.fn a,v=>v=V.ref a
 |.dk σ,v=>∃a,v=V.ref a/\Rd H a dj!
noncomputable def Af(KF:zr!)(H:Hp):List D->List V->Prop
 |[],vs=>vs=[]
 |d::ds,vs=>∃v r,vs=v::r/\Aj KF H d v/\Af KF H ds r
end
mutual
noncomputable def Dd:D->Bool
 |.lst _=>false
 |.dk _=>false
 |.tup xs=>Eg xs
 |_=>true
noncomputable def Eg:List D->Bool
 |[]=>true
 |d::ds=>Dd d&&Eg ds
end
mutual
noncomputable def dep:D->Nat
 |.lst xs=>Dt xs+1
 |.tup xs=>Dt xs+1
 |_=>0
noncomputable def Dt:List D->Nat
 |[]=>0
 |d::ds=>max (dep d) (Dt ds)
end
section
mutual
theorem Aj.map(ht:iW!)(hl:wd_)(hd:wd!):∀(d:D) (v:V),Aj KF H d v->Aj KF H' d v
 |.non,_,h=>h
 |.bl _,_,h=>h
 |.int _,_,h=>h
 |.str _,_,h=>h
 |.tup xs,_,h=>by
  show"!T";exact⟨a,vs,e,ht a vs q,we!⟩
 |.lst xs,_,h=>by
  show"!T";exact⟨a,vs,e,hl a vs q,we!⟩
 |.fn _,_,h=>h
 |.dk σ,_,h=>by
  unfold Aj at h ⊢;obtain⟨a,e,q⟩:=h;exact⟨a,e,hd a σ q⟩
theorem Af.map(ht:iW!)(hl:wd_)(hd:wd!):∀(ds:b!) (vs:o!),Af KF H ds vs->Af KF H' ds vs
 |[],_,h=>h
 |d::ds,_,h=>by
  unfold Af at h ⊢;obtain⟨v,r,e,q,t⟩:=h;exact⟨v,r,e,Aj.map ht hl hd d v q,Af.map ht hl hd ds r t⟩
end
mutual
theorem Aj.mapT(ht:iW!):∀(d:D) (v:V),Dd d=true->Aj KF H d v->Aj KF H' d v
 |.non,_,_,h=>h
 |.bl _,_,_,h=>h
 |.int _,_,_,h=>h
 |.str _,_,_,h=>h
 |.tup xs,_,n,h=>by
  unfold Dd at n;show"!T";exact⟨a,vs,e,ht a vs q,Af.mapT ht xs vs n r⟩
 |.lst xs,_,n,_=>by
  unfold Dd at n;cases n
 |.fn _,_,_,h=>h
 |.dk _,_,n,_=>by
  unfold Dd at n;cases n
theorem Af.mapT(ht:iW!):∀(ds:b!) (vs:o!),Eg ds=true->Af KF H ds vs->Af KF H' ds vs
 |[],_,_,h=>h
 |d::ds,_,n,h=>by
  unfold Eg at n;rw[HQ]at n;unfold Af at h ⊢;obtain⟨v,r,e,q,t⟩:=h;exact⟨v,r,e,Aj.mapT ht d v n.1 q,Af.mapT ht ds r n.2 t⟩
end
def bS(e:ez_)(h:Fg KF H a xs):Fg KF H' a xs:=by
 rcases h with(h|⟨o,h⟩)|h
 .exact vi!
 .exact vj!
 .exact .inr h
def a6g(e:ez_)(h:Rd H a o):Rd H' a o:=by
 obtain h|⟨u,h⟩:=h
 .exact .inl (e _ _ h)
 .exact .inr ⟨u,e _ _ h⟩
def Aj.mono(e:ez_)(h:gh!):Aj KF H' d v:=Aj.map we_ wf! wf_ d v h
def Af.mono(e:ez_)(h:cf_):Af KF H' ds vs:=Af.map we_ wf! wf_ ds vs h
def Aj.non:Aj KF H .non V.non:=by unfold Aj;rfl
def Aj.bl:Aj KF H aI! (V.bl b):=by unfold Aj;rfl
def Aj.int:Aj KF H N! (V.int i):=by unfold Aj;rfl
def Aj.str:Aj KF H b2_ (V.str x):=by unfold Aj;rfl
def Aj.fn:Aj KF H cg! gh_:=by unfold Aj;rfl
def Aj.tup(h:Fg KF H a vs)(r:cf_):Aj KF H cO! gh_:=by unfold Aj;exact wh_
def Aj.lst(h:Ef KF H a vs)(r:cf_):Aj KF H cg_ gh_:=by unfold Aj;exact wh_
def Af.nil:Af KF H [] []:=by unfold Af;rfl
def Af.cons(h:gh!)(t:cf_):Af KF H cO_ (v::vs):=by unfold Af;exact⟨v,vs,rfl,h,t⟩
def aH:∀{ds:b!} {vs:o!},Af KF H ds vs->e_=aU_
 |[],vs,h=>by unfold Af at h;subst h;rfl
 |d::ds,vs,h=>by
  unfold Af at h;obtain⟨v,r,e,_,t⟩:=h;rw[e,HJ,HJ,aH t]
def gJ:∀{ds:b!} {vs:o!} {i:Nat} {d:D},Af KF H ds vs->ds[i]?=some d->∃v,vs[i]?=some v/\Aj KF H d v
 |[],_,_,_,_,e=>by simp at e
 |c::ds,vs,i,d,h,e=>by
  unfold Af at h;obtain⟨v,r,e1,q,t⟩:=h;subst e1;cases i with
  |zero=>simp at e;subst e;exact⟨v,rfl,q⟩
  |succ i=>
   obtain⟨u,Y,h2⟩:=gJ (i:=i) (d:=d) t ct_;exact p7_
def cS:∀{ds es:b!} {vs ws:o!},Af KF H ds vs->Af KF H es ws->Af KF H (ds++es) mb!
 |[],_,_,_,h,k=>by unfold Af at h;subst h;exact k
 |c::ds,_,vs,_,h,k=>by
  show"!O";exact Af.cons q (cS t k)
def vH:∀{ds:b!} {vs:o!} (n:Nat),Af KF H ds vs->Af KF H (ds.take n) (vs.take n)
 |_,_,0,_=>Af.nil
 |[],_,n+1,h=>by unfold Af at h;subst h;exact Af.nil
 |c::ds,vs,n+1,h=>by
  show"!O";exact Af.cons q (vH n t)
def vI:∀{ds:b!} {vs:o!} (n:Nat),Af KF H ds vs->Af KF H iX! (vs.drop n)
 |_,_,0,h=>h
 |[],_,n+1,h=>by unfold Af at h;subst h;exact Af.nil
 |c::ds,vs,n+1,h=>by
  show"!O";exact vI n t
def rZ(hd:gh!):∀{ds:b!} {vs:o!} (n:Nat),Af KF H ds vs->Af KF H (ds.set n d) (vs.set n v)
 |[],_,_,h=>by unfold Af at h;subst h;exact Af.nil
 |c::ds,vs,n,h=>by
  unfold Af at h;obtain⟨u,r,e1,q,t⟩:=h;subst e1;cases n with
  |zero=>exact Af.cons hd t
  |succ n=>exact Af.cons q (rZ hd n t)
def bY(h:Af KF H [] vs):vs=[]:=by unfold Af at h;exact h
def bE(h:Af KF H cO_ vs):∃v r,vs=v::r/\Aj KF H d v/\Af KF H ds r:=by unfold Af at h;exact h
def bN(h:Aj KF H cO! v):∃a vs,v=V.ref a/\Fg KF H a vs/\Af KF H ds vs:=by unfold Aj at h;exact h
def bJ(h:Aj KF H cg_ v):∃a vs,v=V.ref a/\Ef KF H a vs/\Af KF H ds vs:=by unfold Aj at h;exact h
def aX(h:Aj KF H N! v):v=V.int i:=by unfold Aj at h;exact h
def cR(h:Aj KF H (.bl i) v):v=V.bl i:=by unfold Aj at h;exact h
def bT(h:Aj KF H iY! v):v=V.str i:=by unfold Aj at h;exact h
def dY(h:Aj KF H .non v):v=V.non:=by unfold Aj at h;exact h
def fH(h:Aj KF H cg! v):v=V.ref a:=by unfold Aj at h;exact h
def c3i(h:Aj KF H (.dk σ) v):∃a,v=V.ref a/\Rd H a dj!:=by unfold Aj at h;exact h
def gW(h:ch!):Ar H eE_:=λb u e=>by rw[aW (cD e h)];exact e
def fK(h:ch!)(r:cf_):Aj KF (upd H p (.tup vs)) cO! nu_:=Aj.tup (Fg.of bK) wl!
def cQ(h:ch!)(r:cf_):Aj KF iY_ cg_ nu_:=Aj.lst (Ef.of bK) wl!
end
structure Br(G H G' H':Hp):Prop where
 g:Ar G G'
 h:Ar H H'
 sub:Ar G' H'
 new:∀b,G' b≠none->G b≠none\/H b=none
def Br.refl{G H:Hp}(s:B!):Br G H G H:=⟨eF!,Ar.refl H,s,br_⟩
def Br.trans(a:Br G H G1 H1)(b:Br G1 H1 G2 H2):Br G H G2 H2:=
 ⟨a.g.trans b.g,a.h.trans b.h,b.sub,λc h=>(b.new c h).elim (λz=>a.new c z) λz=>.inr (a.h.free z)⟩
def Br.laid(s:B!)(hp:ch!):Br G H (upd G p o) eE_:=by
 refine⟨gW (s.free hp),gW hp,iZ!,aY_⟩
 .by_cases hb:b=p
  .subst hb;rw[bK]at e ⊢;exact e
  .rw[dc!]at e ⊢;exact s b u e
 .by_cases hb:b=p
  .subst hb;exact .inr hp
  .rw[dc!]at h;exact .inl h
abbrev Ab:=List (Option D)
structure OR(KF:zr!)(own:l!)(G H:Hp)(Z:St)(ρ:Ab):Prop where
 sub:Ar G H
 len:gi!=dX!
 at_:∀(i:Nat) (d:D),ρ[i]?=some be_->i∉own->∃v,Z[i]?=some aG!/\Aj KF G d v
 own_:∀i∈own,∃p ds vs,ρ[i]?=some nv_/\Z[i]?=some ci!/\H p=some ch_/\G p=none/\Af KF G ds vs
 dis:∀i∈own,∀j∈own,i≠j->∀p q,Z[i]?=some ci!->Z[j]?=some (some (V.ref q))->p≠q
def OR.grow(h:bQ_)(x:i0!):OR KF own G' H' Z ρ where
 sub:=x.sub
 len:=h.len
 at_:=λi d q n=>let⟨v,Y,h2⟩:=h.at_ i d q n;wp!
 own_:=λi hi=>by
  obtain⟨p,ds,vs,Y,h2,h3,h4,h5⟩:=h.own_ i hi;refine⟨p,ds,vs,Y,h2,x.h _ _ h3,?_,h5.mono x.g⟩;cases q:G' p with
  |none=>rfl
  |some o=>
   rcases x.new p ce! with z|z
   .exact absurd h4 z
   .rw[h3]at z;cases z
 dis:=h.dis
def OR.set(h:bQ_)(hi:aC!)(r:bR!):OR KF own G H dY! bs! where
 sub:=h.sub
 len:=by rw[LP,LP,h.len]
 at_:=λj c q n=>by
  by_cases hj:i=j
  .subst hj;by_cases hi:i<gi!
   .rw[IS hi]at q;cases q;exact⟨v,by rw[IS (by rw[<-h.len];exact hi)],r⟩
   .rw[KD (by rw[LP];omega)]at q;cases q
  .rw[IE hj]at q;rw[IE hj];exact h.at_ j c q n
 own_:=λj hj=>by
  have ne:i≠j:=λe=>hi (e▸hj);rw[IE ne,IE ne];exact h.own_ j hj
 dis:=λj hj k hk hne p q e1 e2=>by
  have ne:i≠j:=λe=>hi (e▸hj);have yf:i≠k:=λe=>hi (e▸hk);rw[IE ne]at e1;rw[IE yf]at e2;exact h.dis j hj k hk hne p q e1 e2
def Hv(own:l!)(Z:St):List Addr:=own.filterMap λi=>match Z[i]? with|some (some (V.ref p))=>some p|_=>none
def lC(h:p∈Hv own Z):∃i∈own,Z[i]?=some ci!:=by
 obtain⟨i,hi,e⟩:=MX.mp h;refine⟨i,hi,?_⟩;show"!6"
 .rename_i q he;cases e;exact he
 .cases e
def a0l(hi:eF_)(h:ws!):p∈Hv own Z:=MX.mpr ⟨i,hi,by rw[h]⟩
def Ja(own:l!)(Z:St)(G H:Hp):Hp:=λb=>if b∈Hv own Z then H b else G b
def OR.full(h:bQ_):OR KF [] eG! H Z ρ:=by
 have s1:Ar G eG!:=λb o e=>by
  unfold Ja;split
  .exact h.sub b o e
  .exact e
 have s2:Ar eG! H:=λb o e=>by
  unfold Ja at e;show"!6"
  .exact e
  .exact h.sub b o e
 refine⟨s2,h.len,nw_,an_,an_⟩;by_cases hi:i∈own
 .obtain⟨p,ds,vs,Y,h2,h3,h4,h5⟩:=h.own_ i hi;rw[Y]at q;cases q;refine⟨_,h2,Aj.lst (Ef.of (xs:=vs) ?_) (h5.mono s1)⟩;unfold Ja;rw[HC (a0l hi h2)];exact h3
 .obtain⟨v,Y,h2⟩:=h.at_ i d q hi;exact⟨v,Y,h2.mono s1⟩
def Le(ρ ρ':Ab):Prop:=gi!=ρ'.length/\∀(i:Nat) (d:D),ρ[i]?=some be_->ρ'[i]?=some be_
def OR.le(h:OR KF [] G H Z ρ')(l:Le ρ ρ'):OR KF [] G H Z ρ:=⟨h.sub,l.1.trans h.len,λi d q n=>h.at_ i d (l.2 i d q) n,an_,an_⟩
def Le.set(h:Le ρ ρ')(hi:ρ[i]?=some none):Le ρ (ρ'.set i be_):=by
 refine⟨by rw[LP];exact h.1,λj c q=>?_⟩;have:i≠j:=λe=>by subst e;rw[hi]at q;cases q
 rw[IE this];exact h.2 j c q
def Le.refl(ρ:Ab):Le ρ ρ:=⟨rfl,λ_ _ h=>h⟩
def Uh(nl:Nat)(ix:l!)(ρ:Ab):Ab:=List.replicate nl none++ix.map λj=>(ρ[j]?).join
def OR.cap(h:bQ_)(nl:Nat)(ix:l!)(hx:i1!):OR KF [] G H vZ_ nx_:=by
 unfold Mr Uh;refine⟨h.sub,R_,nw_,an_,an_⟩;by_cases hi:i<nl
 .rw[ik!,KJ,HC hi]at q;cases q
 .rw[ek!,IK,MB]at q;rw[ek!,IK,MB];cases e:ix[i - nl]? with
  |none=>rw[e]at q;cases q
  |some j=>
   rw[e]at q;have q':(ρ[j]?).join=some d:=IW q;have q2:ρ[j]?=some be_:=by
    cases z:ρ[j]? with
    |none=>rw[z]at q';cases q'
    |some o=>rw[z]at q';exact congrArg some q'
   obtain⟨v,Y,h2⟩:=h.at_ j d q2 (hx j (MJ e));exact⟨v,by simp[Y],h2⟩
inductive tD(KF:zr!)(own:l!)(f:i_)(Z:St)(H:Hp)(Q:VK):Prop
 |mk (G:Hp) (ρ:Ab) (d:D) (o:bQ_) (e:ci_) (k:∀v G' H',Br G H G' H'->Aj KF G' d v->Q v H'):tD KF own f Z H Q
inductive FB(KF:zr!)(own:l!)(f:aC_)(Z:St)(H:Hp)(Q:cx!):Prop
 |mk (G:Hp) (ρ:Ab) (ds:b!) (o:bQ_) (e:wz!) (k:∀vs G' H',Br G H G' H'->Af KF G' ds vs->Q vs H'):FB KF own f Z H Q
inductive Yk(KF:zr!)(own:l!)(f:aZ!)(Z:St)(H:Hp)(Q:dd!):Prop
 |mk (G:Hp) (ρ:Ab) (b:Bool) (o:bQ_) (e:f ρ=some b) (k:∀G' H',Br G H G' H'->Q b H'):Yk KF own f Z H Q
structure DE(X:Cx)(own:l!)(e:Expr)(f:i_):Prop where
 ok:PE X e (tD X.K own f)
structure DA(X:Cx)(own:l!)(es:cx_)(f:aC_):Prop where
 ok:PA X es (FB X.K own f)
structure DT(X:Cx)(own:l!)(e:Expr)(f:aZ!):Prop where
 ok:PT X e wA!
structure DW(X:Cx)(own:l!)(e:Expr)(f:aZ!):Prop where
 ok:PW X e wA!
section
variable{X:Cx}
def eB{t:TE}(h:hH!)(hw:∀Z G H Q ρ d,OR X.K own G H Z ρ->f ρ=some d->(∀v G' H',Br G H G' H'->Aj X.K G' d v->Q v H')->t Z H Q):DE X own e f:=wA_
def b6r(h:fN_)(hw:∀Z G H Q ρ d,OR X.K own G H Z ρ->fs ρ=some d->(∀v G' H',Br G H G' H'->Af X.K G' d v->Q v H')->t Z H Q):DA X own es fs:=⟨λp h1 s Z H Q I ⟨G,ρ,d,er,e,k⟩=>h p h1 s Z H Q I nz!⟩
def tQ(h:PT X e t)(hw:wB!):DT X own e ft:=wA_
def c2p(h:ln_)(hw:wB!):DW X own e ft:=⟨λwh h1 s Z H Q I ⟨G,ρ,d,er,e,k⟩=>h wh h1 s Z H Q I nz!⟩
def Rq(f:i_):Ab->Option D:=λρ=>(aj_).bind λd=>if Dd d then some d else none
def c0z(h:DE X [] e f):DE X own e (Rq f):=eB h.ok λZ G H Q ρ d er e k=>by
 obtain⟨d',e1,e2⟩:=GN.mp e;split at e2
 .rename_i hn;cases e2;refine⟨Ja own Z G H,ρ,d,er.full,e1,λv G' H' x r=>?_⟩;have XO:∀b,b∈Hv own Z->∃vs,G' b=some ch_:=λb hb=>by
   show"!L";refine⟨vs,x.g _ _ ?_⟩;unfold Ja;rw[HC hb];exact h3
  have hG:∀b,b∈Hv own Z->G b=none:=λb hb=>by
   show"!L";exact h4
  refine k v (λb=>if b∈Hv own Z then none else G' b) H' ⟨wC_,x.h,wC_,λb z=>?_⟩ (Aj.mapT (λa vs q=>?_) d v hn r)
  .have hb:b∉Hv own Z:=λhb=>by rw[hG b hb]at z;cases z
   show nz_=some o;rw[HA hb];refine x.g _ _ ?_;unfold Ja;rw[HA hb];exact z
  .have z':nz_=some o:=z;split at z'
   .cases z'
   .exact x.sub _ _ z'
  .have z':nz_≠none:=z;split at z'
   .exact absurd rfl z'
   .rename_i hb;obtain y|y:=x.new b z'
    .unfold Ja at y;rw[HA hb]at y;exact .inl y
    .exact .inr y
  .have ne:∀u,G' a=some u->(∀ws,u≠.lst ws)->(if a∈Hv own Z then none else G' a)=some u:=λu e1 hu=>by
    rw[HA (λhb=>by obtain⟨ws,e2⟩:=XO a hb;rw[e1]at e2;exact hu ws (IW e2))];exact e1
   rcases q with(q|⟨o,q⟩)|q
   .exact .inl (.inl (ne _ q λ_ z=>nomatch z))
   .exact .inl (.inr ⟨o,ne _ q λ_ z=>nomatch z⟩)
   .exact .inr q
 .cases e2
nonrec def fVar(i:Nat):Ab->Option D:=λρ=>(ρ[i]?).join
nonrec def fC(d:D):Ab->Option D:=λ_=>some d
def join_some{ρ:Ab}{i:Nat}(h:(ρ[i]?).join=some d):ρ[i]?=some be_:=by
 cases z:ρ[i]? with
 |none=>rw[z]at h;cases h
 |some o=>rw[z]at h;exact congrArg some h
def aA(i:Nat){x:Str}(hi:aC!:=by decide)(hN:ac!:=by rfl)(hv:cy!:=by first|exact Or.inl rfl|exact Or.inr d!|exact Or.inr at!)(hd:x!:=by decide)
  (bz:cy_:=by decide):DE X own cz! nA_:=
 eB nA! λZ G H Q ρ d er e k=>let⟨v,Y,h2⟩:=er.at_ i d (join_some e) hi;⟨v,Y,k v G H gi_ h2⟩
def b6q(h:hH!)(ht:∀Z H Q,Q v H->t Z H Q)(r:∀H,Aj X.K H d v):DE X own e (fC d):=
 eB h λZ G H Q ρ d' er e' k=>by
  cases e';exact ht Z H Q (k v G H gi_ (r G))
def aB:DE X own re_ (fC N!):=b6q a3y gj! λ_=>Aj.int
def bX:DE X own (.Constant iY! j pos) (fC iY!):=b6q c3u gj! λ_=>Aj.str
def iN:DE X own (.Constant (.bool i) j pos) (fC (.bl i)):=b6q c7s gj! λ_=>Aj.bl
def dC:DE X own rf_ cj!:=b6q c3v gj! λ_=>Aj.non
def c0x(hg:D_)(hm:X.mg x=some da!)(hd:x!:=by decide):DE X own cz! (fC N!):=
 b6q (xF (v:=V.int i) hg hm ex! hd) gj! λ_=>Aj.int
nonrec def f2(g:gj_)(fa fb:i_):Ab->Option D:=λρ=>(eG_).bind λx=>(i1_).bind λy=>g x y
def Gg(KF:zr!)(r:R2)(g:gj_):Prop:=∀{x y:V} {dx dy d:D} {G H:Hp} {Q:VK},Ar G H->Aj KF G dx x->Aj KF G dy y->g dx dy=some d->i2!->r x y H Q
def two(hg:dw_)(er:OR X.K own G H Z ρ)(e:f2 g fa fb ρ=some d)(k:∀v G' H',Br G H G' H'->Aj X.K G' d v->Q v H'):
  Zm r (tD X.K own fa) (tD X.K own fb) Z H Q:=by
 unfold f2 at e;show"!>";obtain⟨y,e2,e⟩:=GN.mp e;exact⟨G,ρ,x,er,e1,λu G1 H1 s1 r1=>⟨G1,ρ,y,cP!,e2,λw G2 H2 s2 r2=>hg s2.sub gk! r2 e λv G' H' s3 r3=>k v G' H' (s1.trans gk_) r3⟩⟩
def aR(ho:lP_)(hg:dw_)(ha:Q!)(hb:cj_):DE X own lQ! i3!:=
 eB wM_ λZ G H Q ρ d er e k=>two hg er e k
def eY(ho:bE!)(hg:dw_)(ha:Q!)(hb:cj_)(hm:dd_):DE X own de! i3!:=
 eB wL_ λZ G H Q ρ d er e k=>two hg er e k
def aN(hr:Um X r)(hg:dw_)(ha:Q!)(hb:cj_)(hs:Ni b):DE X own mG! i3!:=
 eB wM! λZ G H Q ρ d er e k=>two hg er e k
nonrec def fT(f:i_):Ab->Option Bool:=λρ=>(aj_).bind λd=>match d with|.bl b=>some b|_=>none
def jK{b:Bool}(h:fT f ρ=some b):f ρ=some aI!:=by unfold fT at h;obtain⟨d,e,h⟩:=GN.mp h;cases d<;>first|(cases h;exact e)|cases h
def bG(ho:bE!)(hg:dw_)(ha:Q!)(hb:cj_)(hm:dd_):DT X own de! (fT i3!):=
 tQ wN! λZ G H Q ρ d er e k=>two (own:=own) (Q:=wN_) hg er (jK e) λv G' H' s' r'=>by
  cases cR r';exact wO_
def eS(h:dx!)(he:hH_:=by intro _;rfl):DT X own e (fT f):=
 tQ wP! λZ G H Q ρ d er e k=>⟨G,ρ,.bl d,er,jK e,λv G' H' s' r'=>by
  cases cR r';exact wO_⟩
def Pn:D->Option Bool
 |.lst xs=>some (! di_)
 |.tup xs=>some (! di_)
 |.bl b=>some b
 |.int i=>some fI_
 |.non=>some false
 |_=>none
def pY(h:cf_):(!ds.isEmpty)=!vs.isEmpty:=by have:=aH h;cases ds<;>cases vs<;>simp_all
def b6i(h:dx!)(he:hH_:=by intro _;rfl):DT X own e (λρ=>(aj_).bind Pn):=
 tQ (b2h h.ok he) λZ G H Q ρ b er e k=>by
  obtain⟨d,e1,e2⟩:=GN.mp e;refine⟨G,ρ,d,er,e1,λv G' H' s' r'=>⟨b,?_,nB!⟩⟩;cases d with
  |non=>cases dY r';cases e2;exact(rfl:false=false)
  |bl x=>cases cR r';cases e2;exact rfl
  |int i=>cases aX r';cases e2;exact(rfl:fI_=fI_)
  |str x=>cases e2
  |fn a=>cases e2
  |dk a=>cases e2
  |tup xs=>
   obtain⟨a,vs,e3,q,r3⟩:=bN r';subst e3;cases e2;exact .inr (.inl ⟨vs,bS s'.sub q,pY r3⟩)
  |lst xs=>
   obtain⟨a,vs,e3,q,r3⟩:=bJ r';subst e3;cases e2;exact .inl ⟨vs,s'.sub.seq q,pY r3⟩
nonrec def fAnd(ft fu:aZ!):Ab->Option Bool:=λρ=>(gm!).bind λb=>if b then fu ρ else some false
def He(ft fu:aZ!):Ab->Option Bool:=λρ=>(gm!).bind λb=>if b then some true else fu ρ
def By(ft:aZ!):Ab->Option Bool:=λρ=>(gm!).map (!·)
variable{rest:List Expr}
def rG(h:gm_):DW X own lt_ ft:=wP_
def kS(h:gm_):DW X own rr_ ft:=⟨c3l h.ok⟩
def tP(ha:gm_)(hb:DW X own d0! fu):DW X own d0_ (fAnd ft fu):=
 c2p wQ! λZ G H Q ρ d er e k=>by
  obtain⟨x,e1,e⟩:=GN.mp e;refine nC!;cases x with
  |true=>exact jS wR!
  |false=>cases e;exact jT wR_
def qA(ha:gm_)(hb:DW X own fA_ fu):DW X own fB! (He ft fu):=
 c2p (c7q ha.ok hb.ok) λZ G H Q ρ d er e k=>by
  obtain⟨x,e1,e⟩:=GN.mp e;refine nC!;cases x with
  |false=>exact jT wR!
  |true=>cases e;exact jS wR_
def qK(h:DW X own e ft):DT X own e ft:=wS_
def gQ(h:gm_):DT X own d1! (By ft):=
 tQ (b2j h.ok) λZ G H Q ρ d er e k=>by
  obtain⟨x,e1,rfl⟩:=GX.mp e;exact⟨G,ρ,x,er,e1,λG1 H1 s1=>k G1 H1 s1⟩
def Bi(fa fb:i_):Ab->Option D:=λρ=>(nC_).bind λb=>if b then fb ρ else some X!
def Ds(fa fb:i_):Ab->Option D:=λρ=>(nC_).bind λb=>if b then some u_ else fb ρ
def Cn(fa:i_):Ab->Option D:=λρ=>(nC_).map λb=>.bl (!b)
def fU(h:Q!):DE X own lu_ fa:=wT!
def iJ(ha:Q!)(hb:DE X own d0! fb):DE X own d0_ (Bi fa fb):=
 eB wT_ λZ G H Q ρ d er e k=>by
  obtain⟨x,e1,e⟩:=GN.mp e;refine nD!;cases cR r1;refine i4!;cases x with
  |true=>exact jS i4_
  |false=>cases e;exact jT wV!
def wJ(ha:Q!)(hb:DE X own fA_ fb):DE X own fB! (Ds fa fb):=
 eB wW_ λZ G H Q ρ d er e k=>by
  obtain⟨x,e1,e⟩:=GN.mp e;refine nD!;cases cR r1;refine i4!;cases x with
  |false=>exact jT i4_
  |true=>cases e;exact jS wV!
def b6o(ha:Q!):DE X own d1! (Cn fa):=
 eB (b3a ha.ok) λZ G H Q ρ d er e k=>by
  obtain⟨x,e1,rfl⟩:=GX.mp e;refine nD!;cases cR r1;exact⟨x,rfl,wW!⟩
nonrec def fIf(ft:aZ!)(fa fb:i_):Ab->Option D:=λρ=>(gm!).bind λb=>if b then fa ρ else fb ρ
def c8w(hc:wX!)(ha:Q!)(hb:cj_):DE X own lv_ (fIf ft fa fb):=
 eB wX_ λZ G H Q ρ d er e k=>by
  obtain⟨x,e1,e⟩:=GN.mp e;refine nC!;cases x with
  |true=>exact jS i4_
  |false=>exact jT i4_
nonrec def f3(g h:gj_)(fa fb fc:i_):Ab->Option D:=λρ=>(eG_).bind λx=>(i1_).bind λy=>(g x y).bind λz=>match z with
 |.bl true=>(fc ρ).bind λw=>h y w
 |.bl false=>some X!
 |_=>none
nonrec def aNil:Ab->Option as_:=λ_=>some []
nonrec def aCons(f:i_)(fs:aC_):Ab->Option as_:=λρ=>(aj_).bind λd=>(eH!).bind λds=>some cO_
def aK:DA X own [] aNil:=b6r fI λZ G H Q ρ d er e k=>by
 cases e;exact k [] G H gi_ Af.nil
def aC(h:dx!)(hs:i5!)(hst:T!:=by rfl):DA X own am! (aCons f fs):=
 b6r wY! λZ G H Q ρ d er e' k=>by
  obtain⟨x,e1,e'⟩:=GN.mp e';obtain⟨xs,e2,e'⟩:=GN.mp e';cases e';exact⟨G,ρ,x,er,e1,λv G1 H1 s1 r1=>⟨G1,ρ,xs,cP!,e2,λvs G2 H2 s2 r2=>k _ G2 H2 cP_ (Af.cons gk! r2)⟩⟩
def Au(fs:aC_):Ab->Option D:=λρ=>(eH!).bind λds=>if e_<=1000 then some cO! else none
def Eb(fs:aC_):Ab->Option D:=λρ=>(eH!).bind λds=>if e_<=1000 then some cg_ else none
def fB(h:n<=1000):n<=sizeLine:=NT (a8t h)
def dI(h:i5!):DE X own te_ (Au fs):=
 eB (b2x h.ok) λZ G H Q ρ d er e k=>by
  show"!I"
  .show"!G";refine⟨G,ρ,ds,er,e1,λvs G1 H1 s1 r1=>⟨wZ!,λp hp=>k _ _ _ wZ_ (fK w0_ r1)⟩⟩
  .cases e
def zO(h:i5!):DE X own me! (Eb fs):=
 eB nG! λZ G H Q ρ d er e k=>by
  show"!I"
  .show"!G";refine⟨G,ρ,ds,er,e1,λvs G1 H1 s1 r1=>⟨wZ!,λp hp=>k _ _ _ wZ_ (cQ w0_ r1)⟩⟩
  .cases e
def Ku(KF:zr!)(r:d7!)(g:aZ_):Prop:=∀{vs:o!} {ds:b!} {d:D} {G H:Hp} {Q:VK},Ar G H->Af KF G ds vs->g ds=some d->i2!->r vs H Q
nonrec def f1(g:aZ_)(fs:aC_):Ab->Option D:=λρ=>(eH!).bind g
def cG{id:String}(hc:l8_)(hd:Ku X.K r g)(hg:D_)(hm:b3!)(hv:mp_)(ha:gn!)(hn:b3_:=by decide)
  (au:x!:=by decide)(he:T!:=by rfl)(ar:ar!:=by rfl):DE X own az! i6!:=
 eB w1_ λZ G H Q ρ d er e' k=>by
  show"#6";exact w2!
def b0q{T:String}{x:Str}{r:d7!}{g:aZ_}(hc:mq_)(hd:Ku X.K r g)(hg:D_)(hm:b3!)(hv:il_)(ha:gn!)(hn:b3_:=by decide)
  (au:x!:=by decide)(he:T!:=by rfl)(ar:ar!:=by rfl):DE X own az! i6!:=
 eB w2_ λZ G H Q ρ d er e' k=>by
  show"#6";exact w2!
def Wy(KF:zr!)(n:Nat)(g:aZ_):Sp:=λvs H Q _=>aU_=n/\∃G ds d,Ar G H/\Af KF G ds vs/\g ds=some d/\∀v G' H',Br G H G' H'->Aj KF G' d v->Q v H'
def c1a(F:Em X.prog X.w X.K X.mg X.base Ng k af fd ps w3!)(hr:bc!)(hg:D_)(hm:X.mg x=some a0!)(hk:W.keepIn X.K a0!=true)
  (hb:i6_)(ha:gn!)(hn:w4!:=by rfl)(ay:w4_)
  (au:x!:=by decide)(he:T!:=by rfl)(ar:ar!:=by rfl):
  DE X own az! i6!:=
 eB (qO F hr hg hm hk hb .nil vL ha.ok au he ar) λZ G H Q ρ d er e' k=>by
  show"#6";refine⟨G,ρ,ds,er,e1,λvs G1 H1 s1 r1=>?_⟩;show Wy X.K ps.length g i7! H1 Q E0;rw[IB];exact⟨by rw[<-aH r1];exact ay ρ ds e1,G1,ds,d,s1.sub,r1,e',wU_⟩
end
def aT(h:aNil ρ=some ds):e_=0:=by cases h;rfl
def aG(hf:w5_):∀(ρ:Ab) (ds:b!),aCons f fs ρ=some ds->e_=n+1:=λρ ds e=>by
 show"!>";obtain⟨xs,e2,e⟩:=GN.mp e;cases e;rw[HJ,hf ρ xs e2]
def lP(p:PlainL h a its):∃n sl,h.get? a=some {cls:=.type "list",dict:=none,data:=.seq its n,slots:=sl}:=by obtain⟨⟨cls,dd,data,sl⟩,n,e,Y,h2,h3⟩:=p;simp only at Y h2 h3;subst Y h2 h3;exact⟨n,sl,e⟩
section
def Xz(KF:zr!):R2:=λx y H Q=>∃l b xs zs,x=.ref l/\y=.ref b/\Ef KF H l xs/\Ef KF H b zs/\g!+zs.length<=sizeLine/\∀p,H p=none->Q b7_ (upd H p uH!)
def a6v:Fw X d7_ (Xz X.K):=by
 intro h1 s Z H x y v u Q I rx ry h;obtain⟨l,b,xs,zs,rfl,rfl,hH,hB,hz,q⟩:=h;cases rx;cases ry;obtain⟨its,r,pl,z⟩:=I.list hH;obtain⟨ir,r2,XQ,z2⟩:=I.list hB;obtain⟨n,sl,e⟩:=lP pl;obtain⟨n2,jl,e2⟩:=lP XQ;have Y:=av!;have h2:=r2.length;refine concat_meets ds! ⟨_,e2,rfl⟩ PySem.noFill_list_add PySem.seq_list_add PySem.F.slot_list_add PySem.F.entry_list_add (PySem.F.args_list_add_2 _ _)
  (list_addW l b its.toArray ir.toArray n n2 none none sl jl nI!) uJ!
 have ea:aQ!++ir.toArray=(its++ir).toArray:=by simp
 rw[ea];exact⟨.ref _,_,I.lnew (t':=s.toks) uK! nI_,rfl,q _ I.fresh⟩
def Ve(KF:zr!):R2:=λx y H Q=>∃a b ys,x=.ref a/\y=.ref b/\Fg KF H a []/\Fg KF H b ys/\Q el_ H
def b3i:Fw X d7_ (Ve X.K):=by
 intro h1 s Z H x y v u Q I rx ry h;obtain⟨a,b,ys,rfl,rfl,ha,hb,q⟩:=h;cases rx;cases ry;obtain⟨its,r1,p1,_⟩:=I.tuple ha;obtain⟨ir,r2,p2,_⟩:=I.tuple hb;obtain⟨⟨cls,dd,data,sl⟩,ho,hc,n,hd⟩:=id p1;obtain⟨⟨WU,vi,data2,jl⟩,nz,t0,n2,og⟩:=id p2;simp only at hc hd t0 og;subst hc hd t0 og;have e0:its=[]:=r1.nil_iff.mpr rfl;exact concat_meets mr_ ms! noFill_tuple_add seq_tuple_add QE PX ms_
  (tuple_addW0 a b its.toArray ir.toArray n n2 dd vi sl jl (by simp[e0])) ⟨ho,nz,⟨.ref b,H,I,rfl,q⟩⟩
abbrev big:Nat:=100000
def cV(h:n<=big):n<=sizeLine:=IL h (by rw[JI];decide)
def Ag:D->D->Option D
 |.int i,.int j=>some (.int (i+j))
 |.str x,.str y=>if cC_+b6!<=big then some (.str (x++y))else none
 |.tup xs,.tup ys=>if g!+P!<=big then some (.tup dV!)else none
 |.lst xs,.lst ys=>if g!+P!<=big then some eI! else none
 |_,_=>none
def Qa(KF:zr!):R2:=λx y H Q=>Pz (λi j=>.int (i+j)) x y H Q\/((∃i j,x=.str i/\y=.str j/\i.length+j.length<=sizeLine/\Q sE! H)\/(Xy KF x y H Q\/(Ve KF x y H Q\/Xz KF x y H Q)))
def aL:Fw X d7_ (Qa X.K):=c4d.or (a4c.or (b8s.or (b3i.or a6v)))
def bD:Gg KF (Qa KF) Ag:=by
 show"!4";unfold Ag at e;show"!6"
 .show"!^";exact .inl ⟨_,_,rfl,rfl,dy!⟩
 .cases bT rx;cases bT ry;show"!6"
  .show"!G";exact .inr (.inl ⟨_,_,rfl,rfl,cV hl,w8!⟩)
  .cases e
 .show"#%";obtain⟨b,ws,rfl,qb,rb⟩:=bN ry;show"!6"
  .show"!G";have l1:=aH ra;have l2:=aH rb;by_cases hv:vs=[]
   .subst hv;refine .inr (.inr (.inr (.inl ⟨a,b,ws,rfl,rfl,nJ!,bS sub qb,k _ G H aD! ?_⟩)));have:(_:b!)=[]:=OA.mp l1;rw[this,JY];exact Aj.tup qb rb
   .refine .inr (.inr (.inl ⟨a,b,vs,ws,rfl,rfl,nJ!,bS sub qb,hv,by rw[<-l1,<-l2];exact cV hl,λhw=>?_,λhw p hp=>?_⟩))
    .subst hw;have:(_:b!)=[]:=OA.mp l2;refine k _ G H aD! ?_;rw[this,IB];exact Aj.tup qa ra
    .exact k _ _ _ go! (fK eJ_ (cS ra rb))
  .cases e
 .show"#&";obtain⟨b,ws,rfl,qb,rb⟩:=bJ ry;show"!6"
  .show"!G";exact .inr (.inr (.inr (.inr ⟨a,b,vs,ws,rfl,rfl,sub.seq qa,sub.seq qb,by rw[<-aH ra,<-aH rb];exact cV hl,λp hp=>k _ _ _ go! (cQ eJ_ (cS ra rb))⟩)))
  .cases e
 .cases e
def Co(c:sn_)(g:w9_):D->D->Option D
 |.int i,.int j=>if c i j=true then some ba_ else none
 |_,_=>none
def xO(hc:∀i j,c i j=true->C i j)(hg:xa!):Gg KF (rI C gv) (Co c g):=by
 show"!4";unfold Co at e;show"!6"
 .cases aX rx;cases aX ry;show"!6"
  .rename_i h;cases e;exact⟨_,_,rfl,rfl,hc _ _ h,xb!⟩
  .cases e
 .cases e
def Bu(g:w9_):D->D->Option D
 |.int i,.int j=>some ba_
 |_,_=>none
def qR(hg:xa!):Gg KF (Pz gv) (Bu g):=by
 show"!4";unfold Bu at e;show"!6"
 .show"!^";exact⟨_,_,rfl,rfl,xb!⟩
 .cases e
def Dq:D->D->Option D:=Bu λi j=>.int (i - j)
def a4k:Gg KF so_ Dq:=qR λ_ _ _=>Aj.int
def Rm(i j:Int):Bool:=(decide (-hY_<i)&&decide (i<2 ^ 64))||(decide (-hY_<j)&&decide (j<2 ^ 64))
def c4i:Gg KF lS_ (Co Rm λi j=>.int (i*j)):=xO (λi j h=>by
 unfold Rm at h;simp only[Bool.or_eq_true,HQ,HS]at h;exact h) λ_ _ _=>Aj.int
def c4j:Gg KF lU! (Co xd_ λi j=>.int (i%j)):=xO (λi j h=>by simpa using h) λ_ _ _=>Aj.int
def b9b:Gg KF lT_ (Co xe_ λi j=>.int (i / j)):=xO (λi j h=>by
 simp only[HQ,HS]at h;exact h) λ_ _ _=>Aj.int
def c4h:Gg KF lV_ (Co xf! λi j=>.int lV!):=xO (λi j h=>by
 simp only[HQ,HS]at h;exact⟨h.1.1,h.1.2,h.2⟩) λ_ _ _=>Aj.int
def c7x:Gg KF lY! (Bu λi j=>.bl lX_):=qR λ_ _ _=>Aj.bl
def c7z:Gg KF lZ_ (Bu λi j=>.bl lZ!):=qR λ_ _ _=>Aj.bl
def c8a:Gg KF l0! (Bu λi j=>.bl l0_):=qR λ_ _ _=>Aj.bl
def Pg(x y:Str):Bool:=!decide (y.cps.toList<x.cps.toList)
def a9i:Fw X lY_ (λx y H Q=>∃i j,x=.str i/\y=.str j/\Q xg! H):=by intro h1 s Z H x y v u Q I rx ry h;obtain⟨i,j,rfl,rfl,q⟩:=h;obtain⟨t,rfl⟩:=rx;obtain⟨t',rfl⟩:=ry;exact PySem.P.le_str (eH I q rfl)
def Bv:D->Bool
 |.non=>true
 |_=>false
def Bc:D->D->Option D
 |x,.non=>some (.bl (Bv x))
 |_,_=>none
def vE(r:Aj KF H d x):decide (x=V.non)=Bv d:=by
 cases d with
 |non=>cases dY r;rfl
 |bl b=>cases cR r;rfl
 |int b=>cases aX r;rfl
 |str b=>cases bT r;rfl
 |tup b=>obtain⟨a,vs,rfl,_⟩:=bN r;rfl
 |lst b=>obtain⟨a,vs,rfl,_⟩:=bJ r;rfl
 |fn b=>cases fH r;rfl
 |dk b=>obtain⟨a,rfl,_⟩:=c3i r;rfl
def xN:Gg KF su_ Bc:=by
 show"!4";unfold Bc at e;show"!6"
 .show"#L"
 .cases e
def Am:D->D->Option D
 |x,.non=>some (.bl (!Bv x))
 |_,_=>none
def qQ:Gg KF sv! Am:=by
 show"!4";unfold Am at e;show"!6"
 .show"#L"
 .cases e
nonrec def ixD:D->D->Option D
 |.tup xs,.int i=>atI xs i
 |.lst xs,.int i=>atI xs i
 |.str x,.int i=>if cC_<=big then(atI x.cps.toList i).map λc=>.str an! else none
 |_,_=>none
def mO(r:cf_)(h:atI ds i=some d):∃v,atI vs i=some v/\Aj KF H d v:=by unfold atI at h ⊢;obtain⟨j,Y,h2⟩:=GN.mp h;obtain⟨v,h3,h4⟩:=gJ r h2;exact⟨v,GN.mpr ⟨j,by rw[<-aH r];exact Y,h3⟩,h4⟩
def aM:Gg KF (DY KF) ixD:=by
 show"!4";unfold ixD at e;show"!6"
 .show"#%";cases aX ry;obtain⟨v,Y,h2⟩:=mO ra e;exact .inr (.inl ⟨a,vs,_,v,rfl,rfl,nJ!,Y,xh_⟩)
 .show"#&";cases aX ry;obtain⟨v,Y,h2⟩:=mO ra e;exact .inl ⟨a,vs,_,v,rfl,rfl,sub.seq qa,Y,xh_⟩
 .cases bT rx;cases aX ry;show"!6"
  .rename_i hl;obtain⟨c,Y,rfl⟩:=GX.mp e;exact .inr (.inr ⟨_,_,c,rfl,rfl,cV hl,Y,w8!⟩)
  .cases e
 .cases e
def Cf(xs:ad_)(lo hi:aA!):List α:=(t3!).take mA_
def a0q(r:cf_)(lo hi:aA!):Af KF H (Cf ds lo hi) (Rr vs lo hi):=by unfold Cf Rr;rw[aH r];exact vH _ (vI _ r)
end
section
variable{pos p2:Pos}
inductive Zv(KF:zr!)(own:l!)(o:xi!)(Z:St)(H:Hp)(Q:tX_):Prop
 |mk (G:Hp) (ρ:Ab) (i:aA!) (r:bQ_) (e:o ρ=some i) (k:∀G' H',Br G H G' H'->Q i H'):Zv KF own o Z H Q
def Al:Ab->Option nK!:=λ_=>some none
def Ak(f:i_):Ab->Option nK!:=λρ=>(aj_).bind λd=>match d with|.int i=>some (some i)|_=>none
def dP:PO X none (Zv X.K own Al):=by rintro h1 s Z H Q I ⟨G,ρ,i,er,e,k⟩;cases e;exact b8i h1 s Z H Q I (k G H gi_)
def dO(h:dx!):PO X hN_ (Zv X.K own (Ak f)):=by
 rintro h1 s Z H Q I ⟨G,ρ,i,er,e',k⟩;obtain⟨d,e1,e2⟩:=GN.mp e';refine b8h h.ok h1 s Z H Q I ⟨G,ρ,d,er,e1,λv G' H' s' r'=>?_⟩;cases d<;>first
  |cases e2
  |skip
 cases aX r';exact⟨_,rfl,nB!⟩
def Ay:D->Option Int->Option Int->Option D
 |.tup xs,lo,hi=>if HT.sIx xs.length 0 lo=0/\HT.sIx xs.length xs.length hi=g! then none else some (.tup xi_)
 |.lst xs,lo,hi=>some (.lst xi_)
 |_,_,_=>none
def Dj(f:i_)(ol oh:xi!):Ab->Option D:=λρ=>(aj_).bind λd=>(ol ρ).bind λl=>(oh ρ).bind λh=>Ay d l h
def cU{lo hi:Option Expr}(ha:Q!)(hl:PO X lo (Zv X.K own ol))(hh:PO X hi (Zv X.K own oh)):DE X own (.Subscript a mA! pos) (Dj fa ol oh):=
 eB (b2y (Ye.or c3e b7u) ha.ok hl hh) λZ G H Q ρ d er e k=>by
  show"!>";obtain⟨l,e2,e⟩:=GN.mp e;obtain⟨h,e3,e⟩:=GN.mp e;refine⟨G,ρ,x,er,e1,λv G1 H1 s1 r1=>⟨G1,ρ,l,cP!,e2,λG2 H2 s2=>⟨G2,ρ,h,er.grow cP_,e3,λG3 H3 s3=>?_⟩⟩⟩;have r3:Aj X.K G3 x v:=(gk!).mono s3.g;have s4:Br G H G3 H3:=s1.trans gk_;have sub:=s4.sub;unfold Ay at e;show"!6"
  .show"!6"
   .cases e
   .rename_i hw;cases e;obtain⟨p,vs,rfl,q,rr⟩:=bN r3;refine .inl ⟨p,vs,rfl,bS sub q,?_,λp hp=>k _ _ _ xk! (fK eJ_ xk_)⟩;rw[<-aH rr];exact hw
  .cases e;obtain⟨p,vs,rfl,q,rr⟩:=bJ r3;exact .inr ⟨p,vs,rfl,i9!,λp hp=>k _ _ _ xk! (cQ eJ_ xk_)⟩
  .cases e
def EX:D->Value
 |.non=>.type "NoneType"
 |.bl _=>.type "bool"
 |.int _=>.type "int"
 |.str _=>.type "str"
 |.tup _=>.type "tuple"
 |.lst _=>.type "list"
 |.fn _=>.none
 |.dk _=>.none
def AS(KF:zr!)(T:String):List V->Hp->VK->Prop:=λxs H Q=>∃x d b,xs=[x,.ty T]/\Aj KF H d x/\W.kitOne KF (EX d) el!=some b/\(∀a,d≠.fn a)/\(∀a,d≠.dk a)/\Q aI! H
def b6z:Hb X eL_ (AS X.K T):=by
 intro h1 s Z H xs us Q I r h;obtain⟨x,d,b,rfl,rx,e,hf,yg,q⟩:=h;obtain⟨u,w',rfl,r1,r2⟩:=uW r;cases r2;have ag:∀tk,EP X h1 Z Q lr! {s with toks:=tk}:=λtk=>⟨.bl b,H,I.tok tk,rfl,q⟩;cases d with
 |non=>cases dY rx;cases r1;exact RT W.kitx_none I.kIn True.intro e dz! ag
 |bl y=>cases cR rx;cases r1;exact RT W.kitx_bool I.kIn True.intro e dz! ag
 |int y=>cases aX rx;obtain⟨t,rfl⟩:=r1;exact RT W.kitx_int I.kIn True.intro e dz! ag
 |str y=>cases bT rx;obtain⟨t,rfl⟩:=r1;exact RT W.kitx_str I.kIn True.intro e dz! ag
 |tup ys=>
  show"#%";cases r1;obtain⟨its,_,⟨o,Y,h2,_⟩,_⟩:=I.tuple qa;exact RT W.kitx_tuple I.kIn ja! e dz! ag
 |lst ys=>
  show"#&";cases r1;obtain⟨its,_,pl,_⟩:=I.list qa;obtain⟨o,n,Y,h2,_⟩:=pl;exact RT W.kitx_list I.kIn ja! e dz! ag
 |fn a=>exact absurd rfl (hf a)
 |dk a=>exact absurd rfl (yg a)
def Ei(T:String):D->Option Bool
 |.non=>some (T=="NoneType")
 |.bl _=>some (T=="bool"||T=="int")
 |.int _=>some (T=="int")
 |.str _=>some (T=="str")
 |.tup _=>some (T=="tuple")
 |.lst _=>some (T=="list")
 |.fn _=>none
 |.dk _=>none
structure Vz(KF:zr!)(T:String):Prop where
 ok:∀d b,Ei T d=some b->W.kitOne KF (EX d) el!=some b
def yP:W.kitOne [] ja_ bs_=some ("int"=="NoneType"):=by decide+kernel
def a1r:W.kitOne [] bt! bs_=some ("int"=="bool"||"int"=="int"):=by decide+kernel
def yU:W.kitOne [] bs_ bs_=some ("int"=="int"):=by decide+kernel
def yN:W.kitOne [] bt_ bs_=some ("int"=="str"):=by decide+kernel
def yL:W.kitOne [] a1! bs_=some ("int"=="tuple"):=by decide+kernel
def yR:W.kitOne [] er! bs_=some ("int"=="list"):=by decide+kernel
def a7q:Vz KF "int":=⟨λd b h=>match d,b,h with
 |.non,b,h=>by cases h;exact yP
 |.bl _,b,h=>by cases h;exact a1r
 |.int _,b,h=>by cases h;exact yU
 |.str _,b,h=>by cases h;exact yN
 |.tup _,b,h=>by cases h;exact yL
 |.lst _,b,h=>by cases h;exact yR
 |.fn _,b,h=>by cases h
 |.dk _,b,h=>by cases h⟩
def uN:W.kitOne [] ja_ bt!=some ("bool"=="NoneType"):=by decide+kernel
def yV:W.kitOne [] bt! bt!=some ("bool"=="bool"||"bool"=="int"):=by decide+kernel
def uP:W.kitOne [] bs_ bt!=some ("bool"=="int"):=by decide+kernel
def uM:W.kitOne [] bt_ bt!=some ("bool"=="str"):=by decide+kernel
def uL:W.kitOne [] a1! bt!=some ("bool"=="tuple"):=by decide+kernel
def uO:W.kitOne [] er! bt!=some ("bool"=="list"):=by decide+kernel
def a1z:Vz KF "bool":=⟨λd b h=>match d,b,h with
 |.non,b,h=>by cases h;exact uN
 |.bl _,b,h=>by cases h;exact yV
 |.int _,b,h=>by cases h;exact uP
 |.str _,b,h=>by cases h;exact uM
 |.tup _,b,h=>by cases h;exact uL
 |.lst _,b,h=>by cases h;exact uO
 |.fn _,b,h=>by cases h
 |.dk _,b,h=>by cases h⟩
def yO:W.kitOne [] ja_ bt_=some ("str"=="NoneType"):=by decide+kernel
def a1q:W.kitOne [] bt! bt_=some ("str"=="bool"||"str"=="int"):=by decide+kernel
def yS:W.kitOne [] bs_ bt_=some ("str"=="int"):=by decide+kernel
def yM:W.kitOne [] bt_ bt_=some ("str"=="str"):=by decide+kernel
def yK:W.kitOne [] a1! bt_=some ("str"=="tuple"):=by decide+kernel
def yQ:W.kitOne [] er! bt_=some ("str"=="list"):=by decide+kernel
def yZ:Vz KF "str":=⟨λd b h=>match d,b,h with
 |.non,b,h=>by cases h;exact yO
 |.bl _,b,h=>by cases h;exact a1q
 |.int _,b,h=>by cases h;exact yS
 |.str _,b,h=>by cases h;exact yM
 |.tup _,b,h=>by cases h;exact yK
 |.lst _,b,h=>by cases h;exact yQ
 |.fn _,b,h=>by cases h
 |.dk _,b,h=>by cases h⟩
def sZ:W.kitOne [] ja_ a1!=some ("tuple"=="NoneType"):=by decide+kernel
def uQ:W.kitOne [] bt! a1!=some ("tuple"=="bool"||"tuple"=="int"):=by decide+kernel
def tF:W.kitOne [] bs_ a1!=some ("tuple"=="int"):=by decide+kernel
def sY:W.kitOne [] bt_ a1!=some ("tuple"=="str"):=by decide+kernel
def sX:W.kitOne [] a1! a1!=some ("tuple"=="tuple"):=by decide+kernel
def tE:W.kitOne [] er! a1!=some ("tuple"=="list"):=by decide+kernel
def lH:Vz KF "tuple":=⟨λd b h=>match d,b,h with
 |.non,b,h=>by cases h;exact sZ
 |.bl _,b,h=>by cases h;exact uQ
 |.int _,b,h=>by cases h;exact tF
 |.str _,b,h=>by cases h;exact sY
 |.tup _,b,h=>by cases h;exact sX
 |.lst _,b,h=>by cases h;exact tE
 |.fn _,b,h=>by cases h
 |.dk _,b,h=>by cases h⟩
def Cu(T:String)(f:i_):Ab->Option D:=λρ=>(aj_).bind λd=>(Ei T d).map D.bl
def iI(ht:Vz X.K T)(hg:nM_)(hm:nL_)(lq:D_)(lu:b3!)(hv:nM!)(hv2:il_)(ha:Q!)
  (jj:b3_:=by decide)(og:x!:=by decide)
  (he:starEach [a,jb_] X.env=dh!::starEach eM! X.env:=by rfl)(g9:starEach eM! X.env=(false,eval cR! X.env)::starEach [] X.env:=by rfl)
  (ar:(backTo pos (starEach eM! X.env)).any c_=false:=by rfl):DE X own (.Call (.Name "isinstance" p) [a,jb_] [] pos) (Cu T fa):=
 eB (jY (r:=AS X.K T) b6z hg hm hv (cO ha.ok (cO (b8p (v:=V.ty T) lq lu hv2 rfl jj og) fI g9) he) b_ b_ he ar) λZ G H Q ρ d er e k=>by
  show"!>";obtain⟨b,e2,rfl⟩:=GX.mp e;exact⟨G,ρ,x,er,e1,λv G1 H1 s1 r1=>⟨v,x,b,rfl,r1.mono s1.sub,ht.ok x b e2,xo!,xo!,wW!⟩⟩
def eP(h:Af KF H [d] vs):∃v,vs=[v]/\Aj KF H d v:=by obtain⟨v,r,rfl,Y,h2⟩:=bE h;cases bY h2;exact⟨v,rfl,Y⟩
def Bp:List D->Option D
 |[.tup xs]=>some (.int g!)
 |[.lst xs]=>some (.int g!)
 |[.str x]=>if cC_<=big then some (.int cC_)else none
 |_=>none
def eZ:Ku KF xo_ Bp:=by
 show"!N";unfold Bp at e;show"!6"
 .show"#@";exact⟨_,_,rfl,.inr ⟨ws,bS sub q,aH rr⟩,dy!⟩
 .show"!`";cases e;exact⟨_,_,rfl,.inl ⟨ws,i9!,aH rr⟩,dy!⟩
 .show"!:";cases bT rv;show"!6"
  .show"!G";exact⟨_,_,rfl,⟨cV hl,rfl⟩,dy!⟩
  .cases e
 .cases e
def Ey:List D->Option D
 |[.int i]=>some (.int h2!)
 |_=>none
def c6k:Ku KF sG! Ey:=by
 show"!N";unfold Ey at e;show"!6"
 .show"!:";cases aX rv;cases e;exact⟨_,rfl,dy!⟩
 .cases e
def Xf:List D->Option D
 |[.str x]=>if cC_=1 then some sH! else none
 |_=>none
def c6j:Ku KF sH_ Xf:=by
 show"!N";unfold Xf at e;show"!6"
 .show"!:";cases bT rv;show"!6"
  .show"!G";exact⟨_,rfl,hl,dy!⟩
  .cases e
 .cases e
def CU:List D->Option D
 |[.lst xs]=>some aQ_
 |[.tup xs]=>some aQ_
 |_=>none
def Tj:List D->Option D
 |[.lst xs]=>some A_
 |[.tup xs]=>some A_
 |_=>none
def c1o{KF:zr!}:Ku KF xp! Tj:=by
 show"!N";unfold Tj at e;show"!6"
 .show"!`";cases e;exact⟨a,ws,rfl,.inl nN_,xp_⟩
 .show"#@";exact⟨a,ws,rfl,.inr gq_,xp_⟩
 .cases e
def rN:∀{bs:jd!} {us:j_},Aq xq! us->us=bs.map Value.bool
 |[],_,.nil=>rfl
 |b::bs,_,.cons r t=>by cases r;rw[rN t];rfl
def AU(KF:zr!):List V->Hp->VK->Prop:=λxs H Q=>∃(p:yz!) (bs:jd!),xs=iz!/\Ef KF H p xq!/\Q (.bl nO!) H
def b0x:∀(bs:jd!),((List.range bs.length).all λi=>(nO_).getD true)=bs.all id:=λbs=>by
 rw[JH,KO,KO];show"!|"
 .intro h x hx;obtain⟨i,hi,rfl⟩:=OO.mp hx;have:=h i (NP.mpr hi);simpa[hi]using this
 .intro h i hi;have c6:=NP.mp hi;simpa[c6]using h bs[i] (IZ c6)
def oB(hc:aq_):Hb X xr! (AU X.K):=by
 intro h1 s Z H xs us Q I r h;obtain⟨p,bs,rfl,hq,q⟩:=h;obtain⟨u,rfl,r1⟩:=mH r;cases r1;obtain⟨its,rv,pl,hz⟩:=I.list hq;have e:=rN rv;subst e;have hl:=pl.isList;have ai:p<g_:=by obtain⟨_,e,_⟩:=hl;exact HP e
 refine call_all_walk (wpAny_pyIter_list hl ?_);refine⟨g_,[g_,p],[g_],(je!).toArray.size,_,_,λi=>(nO_).getD true,rfl,Walks.list (A:=X.A.in1) a9_ _ p (IH ai) (je!).toArray,
  ⟨d5!,hl.push _⟩,λi v s' Q' E' hP hQ=>?_,λh' tk hk=>?_⟩
 .have TU:je![i]?=some v:=by simpa using hP
  rw[IK]at TU;obtain⟨b,hb,rfl⟩:=GX.mp TU;simp only[hb,Option.getD_some]at hQ;exact IV hQ
 .have e:((List.range (je!).toArray.size).all λi=>(nO_).getD true)=bs.all id:=by
   rw[GW,GY];exact b0x bs
  rw[e];exact⟨.bl _,H,I.kept (t':=tk) λb x ex=>hk b x (λhm=>by rw[GZ.mp hm]at ex;exact KY _ (HP ex)) (GQ _ ex),rfl,q⟩
def Ie:List D->Option (List Bool)
 |[]=>some []
 |.bl b::r=>(Ie r).map (b::·)
 |_=>none
def Lr:List D->Option D
 |[.lst xs]=>(Ie xs).map λbs=>.bl nO!
 |_=>none
def vG:∀{ds:b!} {vs:o!} {bs:jd!},Af KF H ds vs->Ie ds=some bs->vs=bs.map V.bl
 |[],vs,bs,r,e=>by cases bY r;cases e;rfl
 |d::ds,vs,bs,r,e=>by
  obtain⟨v,t,rfl,r1,r2⟩:=bE r;cases d<;>first|cases e|skip
  obtain⟨bs',e1,rfl⟩:=GX.mp e;cases cR r1;rw[vG r2 e1];rfl
def zU:Ku KF (AU KF) Lr:=by
 show"!N";unfold Lr at e;show"!6"
 .show"!`";obtain⟨bs,e1,rfl⟩:=GX.mp e;have:=vG rr e1;subst this;exact⟨a,bs,rfl,i9!,eN!⟩
 .cases e
end
def Xn(KF:zr!)(J:It)(ds:b!)(G1:Hp):Prop:=∀(i:Nat) (G' H':Hp),Ar G1 G'->Ar G' H'->
 xr_/\xs!
inductive FA(KF:zr!)(own:l!)(fi:aC_)(Z:St)(H:Hp)(R:hS_):Prop
 |mk (G:Hp) (ρ:Ab) (ds:b!) (o:bQ_) (e:fi ρ=some ds) (k:∀J G1 H1,Br G H G1 H1->Xn KF J ds G1->R J H1):FA KF own fi Z H R
structure DI(X:Cx)(own:l!)(tg iter:Expr)(fi:aC_):Prop where
 ok:PI X tg iter (FA X.K own fi)
section
variable{pos p2:Pos}
def a2p(h:xs_)(hw:∀Z G H R ρ ds,OR X.K own G H Z ρ->fi ρ=some ds->(∀J G1 H1,Br G H G1 H1->Xn X.K J ds G1->R J H1)->wi Z H R):DI X own tg e fi:=⟨λh1 s Z H R I ⟨G,ρ,ds,er,e,k⟩=>h h1 s Z H R I (hw Z G H R ρ ds er e k)⟩
def Ct(f:i_):Ab->Option as_:=λρ=>(aj_).bind λd=>match d with|.lst xs=>some xs|_=>none
def EF(f:i_):Ab->Option as_:=λρ=>(aj_).bind λd=>match d with|.tup xs=>some xs|_=>none
def a1y{ad:yz!}(q:Ef KF G1 ad vs)(r:xt!):Xn KF (ES KF ad) ds G1:=by intro i G' H' s1 s2;have q':Ef KF H' ad vs:=s2.seq (s1.seq q);refine⟨dA!,λhi=>⟨vs,q',by rw[<-aH r,hi];exact HK _⟩⟩;obtain⟨v,Y,h2⟩:=gJ r hd;refine⟨⟨vs,v,q',Y⟩,je_⟩;obtain⟨e1,e2⟩:=hy;subst e1;have:=e2 vs q';rw[Y]at this;cases this;exact⟨G',jf!,h2.mono s1⟩
def eJ(h:Q!):DI X own tg a (Ct fa):=a2p (a6o h.ok) λZ G H R ρ ds er e k=>by
 obtain⟨d,e1,e2⟩:=GN.mp e;cases d<;>first|cases e2|skip
 refine eO_;obtain⟨p,vs,rfl,q,rr⟩:=bJ r1;exact⟨p,rfl,⟨vs,s1.sub.seq q⟩,k _ G1 H1 s1 (a1y q rr)⟩
nonrec def rangeD(n:Nat):List D:=(nR_).map λi=>.int (i:Nat)
nonrec def iRng(f:i_):Ab->Option as_:=λρ=>(aj_).bind λd=>match d with|.int j=>if -1000<=j/\j<=100000 then some xu! else none|_=>none
def b0d:Xn KF (BS 0 n) (rangeD n) G1:=by intro i G' H' s1 s2;unfold rangeD;refine xu_;rw[IK]at hd;obtain⟨j,hj,rfl⟩:=GX.mp hd;obtain⟨hl,he⟩:=HG.mp hj;rw[OX]at he;subst he;rw[LN]at hl;refine xv!;obtain⟨e1,e2⟩:=hy;subst e1 e2;refine⟨G',jf!,?_⟩;rw[QJ];exact Aj.int
def gK(hg:hV!)(hm:hV_)(h:Q!)(hs:r6!:=by rfl)(bo:jg!:=by rfl):
  DI X own tg r7! (iRng fa):=a2p (a9f hg hm (cO h.ok fI bo) hs) λZ G H R ρ ds er e k=>by
 obtain⟨d,e1,e2⟩:=GN.mp e;cases d<;>first|cases e2|skip
 rename_i j;have e3:(if -1000<=j/\j<=100000 then some xu! else none)=some ds:=e2;split at e3
 .rename_i hj;cases e3;refine eO_;cases aX r1;exact⟨j,rfl,m_,m_,k _ G1 H1 s1 b0d⟩
 .cases e3
def Df(bnd:aM_)(ft:aZ!)(fe:i_)(ρ:Ab):List D->Option as_
 |[]=>some []
 |d::ds=>(jh_).bind λaj=>(ft aj).bind λb=>if b then(fe aj).bind λy=>(Df bnd ft fe ρ ds).map (y::·)else Df bnd ft fe ρ ds
def GD(KF:zr!)(g:TG)(bnd:aM_):Prop:=∀{x:V} {d:D} {Z:St} {G H:Hp} {ρ aj:Ab} {Q:hO_},OR KF [] G H Z ρ->Aj KF G d x->bnd d ρ=some aj->(∀bq,OR KF [] G H bq aj->Le ρ aj->Q bq H)->g x Z H Q
def Ax(i:Nat):D->Ab->Option Ab:=λd ρ=>match ρ[i]? with|some none=>some bs!|_=>none
def cY(i:Nat):GD KF d3! (Ax i):=by
 intro x d Z G H ρ aj Q er r e k;unfold Ax at e;show"!6"
 .rename_i h;cases e;exact k _ (er.set d_ r) ((Le.refl ρ).set h)
 .cases e
def Oq(i j:Nat):D->Ab->Option Ab:=λd ρ=>match d with
 |.tup [x,y]=>(Ax i x ρ).bind λaj=>Ax j y aj
 |_=>none
def Le.trans(a:Le ρ aj)(b:Le aj bd):Le ρ bd:=⟨a.1.trans b.1,λi d h=>b.2 i d (a.2 i d h)⟩
def c0c(i j:Nat):GD KF xx! (Oq i j):=by
 intro x d Z G H ρ aj Q er r e k;unfold Oq at e;show"!6"
 .obtain⟨bd,e1,e2⟩:=GN.mp e;show"!Z";show"!7";refine⟨p,[v1,v2],rfl,bS er.sub q,rfl,v1,[v2],rfl,?_⟩;refine cY i er r1 e1 λbq ou l1=>⟨v2,[],rfl,?_⟩;exact cY j ou r2 e2 λcm c7 l2=>⟨rfl,k cm c7 (l1.trans l2)⟩
 .cases e
def Ff(nl:Nat)(ix:l!)(fi:aC_)(bnd:aM_)(ft:aZ!)(fe:i_):Ab->Option D:=λρ=>(fi ρ).bind λds=>if e_<=big then(Df bnd ft fe nx_ ds).map D.lst else none
def c6i{Fin:cx!}
  (hb:e_<=big)(dr:xx_)(hg:GD KF g bnd)(er:OR KF [] G1 H1 yh oy)(e:Df bnd ft fe oy ds=some jo)(k:∀ys G' H',Br G1 H1 G' H'->Af KF G' jo ys->Fin ys H'):
  Ts J g (Yk KF [] ft) (tD KF [] fe) Fin yh H1:=by
 refine⟨λi m ys ae H'=>i<=e_/\m=e_ - i/\∃G' ws r,Br G1 H1 G' H'/\OR KF [] G' H' ae oy/\Af KF G' ws ys/\mb_<=i/\Df bnd ft fe oy (ds.drop i)=some r/\ws++r=jo,
  ⟨e_,IF _,rfl,G1,[],jo,Br.refl er.sub,er,Af.nil,IF _,e,rfl⟩,?_⟩
 rintro i m ys ae H' ⟨hi,rfl,G',ws,r,x,cz,ax,hw,c7,et⟩;refine xy!;obtain⟨j5,j6⟩:=dr i G' H' x.g cz.sub;by_cases ai:i<e_
 .right;have hd:ds[i]?=some ds[i]:=by simp[ai]
  have yi:ds.drop i=ds[i]::ds.drop S!:=KA ai;rw[yi]at c7;unfold Df at c7;obtain⟨aj,e1,c7⟩:=GN.mp c7;obtain⟨b,e2,c7⟩:=GN.mp c7;obtain⟨go,yl⟩:=j5 _ hd;refine xy_;obtain⟨G2,x2,r2⟩:=yl v H2 hy;refine hg xz! r2 e1 λbq ou ub=>⟨G2,aj,b,ou,e2,λG3 H3 x3=>?_⟩;have j7:=ou.grow x3;have l8:Br G1 H1 G3 H3:=x.trans (x2.trans x3);cases b with
  |true=>
   obtain⟨y,e3,c7⟩:=GN.mp c7;obtain⟨zs,e4,rfl⟩:=GX.mp c7;refine jS ⟨G3,aj,y,j7,e3,λu G4 H4 x4 r4=>⟨_,?_,ai,rfl,G4,ws++[y],zs,l8.trans x4,(j7.grow x4).le ub,?_,?_,e4,?_⟩⟩
   .omega
   .exact cS xA_ (Af.cons r4 Af.nil)
   .rw[HN,JK];omega
   .rw[IY];exact et
  |false=>
   refine jT ⟨_,?_,ai,rfl,G3,ws,r,l8,j7.le ub,xB!,m_,c7,et⟩;omega
 .left;have f9:i=e_:=by omega
  refine⟨j6 f9,k ys G' H' x ?_⟩;rw[f9,ON]at c7;cases c7;rw[IB]at et;subst et;exact ax
def jM
  (cx:cM!)(cj:cM_)(j4:∀y∈bO!,y.2=.local->scope.names.lookup y.1=some .local)
  (g6:gf!)(cap:cL_)(hix:i1!)(calm:aq_)(al:DI X own tg iter fi)
  (hg:gf_)(j8:nW!)(hi:∀cl C ao be fp,Nf bQ! df xB_)(he:∀cl C ao be fp,DE bQ! [] d7 fe)
  (hs:b5_:=by intro _;rfl):
  DE X own gc! (Ff NL.length ix fi bnd ft fe):=
 eB xC_ λZ G H Q ρ d er e k=>by
  show"!I"
  .rename_i hb;obtain⟨jo,e2,rfl⟩:=GX.mp e;refine⟨G,ρ,ds,er,e1,xD!⟩;refine c6i hb dr j8 ((xD_).cap NL.length ix hix) e2 λys G' H' x r p hp=>?_;exact k _ _ _ (x1.trans (x.trans gs_)) (cQ nX! r)
  .cases e
def a0x:Nf X [] (Yk X.K [] λ_=>some true):=by rintro h1 s Z H Q I ⟨G,ρ,b,er,e,k⟩;cases e;exact a0w h1 s Z H Q I (k G H gi_)
def c1z(h:DT X [] c ft):Nf X [c] xB_:=a0v h.ok
end
inductive Fl where
 |nx (ρ:Ab)|rt (d:D)
structure SR(KF:zr!)(own:l!)(G0 F0 G H:Hp)(Z:St)(ρ:Ab):Prop where
 or:OR KF own G H Z ρ
 ext:Br G0 F0 G H
 fr:∀i∈own,∀p,Z[i]?=some ci!->F0 p=none
inductive CA(KF:zr!)(G0 F0:Hp)(own cu:l!)(f:bg!)(E:Qo)(Z:St)(H:Hp):Prop
 |mk (G:Hp) (ρ:Ab) (r:Fl) (o:eP!) (e:f ρ=some r) (k:match(generalizing:=false) r with
  |.nx ρ'=>∀G' ae H',SR KF cu G0 F0 G' H' ae ρ'->E.nx ae H'
  |.rt d=>∀v G' H',Br G0 F0 G' H'->Aj KF G' d v->E.rt v H'):CA KF G0 F0 own cu f E Z H
structure DS(X:Cx)(own cu:l!)(st:Stmt)(f:bg!):Prop where
 ok:∀G0 F0,PS X st xE!
structure Wc(X:Cx)(own cu:l!)(st:fy_)(f:bg!):Prop where
 ok:∀G0 F0,Lx X st xE!
section
variable{st:Stmt}{rest body:List Stmt}{pos p2:Pos}
def c2q(h:hM!)(hw:∀G0 F0 E Z G H ρ r,SR X.K own G0 F0 G H Z ρ->q1 ρ=some r->(match r with
  |.nx ρ'=>∀G' ae H',SR X.K own1 G0 F0 G' H' ae ρ'->E.nx ae H'
  |.rt d=>∀v G' H',Br G0 F0 G' H'->Aj X.K G' d v->E.rt v H')->t E Z H):DS X own own1 st q1:=⟨λG0 F0 h1 s Z H E I ⟨G,ρ,r,er,e,k⟩=>h h1 s Z H E I (hw G0 F0 E Z G H ρ r er e k)⟩
def SR.grow(s:eP!)(x:i0!):SR KF own G0 F0 G' H' Z ρ:=⟨s.or.grow x,s.ext.trans x,s.fr⟩
def SR.set(s:eP!)(hi:aC!)(r:bR!):SR KF own G0 F0 G H dY! bs!:=
 ⟨s.or.set hi r,s.ext,λj hj p e=>by
  have ne:i≠j:=λz=>hi (z▸hj);rw[IE ne]at e;exact s.fr j hj p e⟩
def Bj:Ab->Option Fl:=λρ=>some Z_
nonrec def sSeq(q1 q2:bg!):Ab->Option Fl:=λρ=>(q1 ρ).bind λr=>match r with|.nx ρ'=>q2 ρ'|.rt d=>some af!
def cP:Wc X own own [] Bj:=⟨by
 rintro G0 F0 h1 s Z H E I ⟨G,ρ,r,er,e,k⟩;cases e;exact a6m h1 s Z H E I (k G Z H er)⟩
def aS(Y:xE_)(h2:Wc X own1 jp rest q2):Wc X own jp hM_ (sSeq q1 q2):=⟨by
 rintro G0 F0 h1 s Z H E I ⟨G,ρ,r,er,e,k⟩;refine sF nX_ xF! h1 s Z H E I ?_;obtain⟨r1,e1,e2⟩:=GN.mp e;refine⟨G,ρ,r1,er,e1,?_⟩;cases r1 with
 |nx ρ'=>exact λG' ae H' cz=>⟨G',ρ',r,cz,e2,k⟩
 |rt d=>
  cases e2;exact k⟩
def aU(Y:xE_):Wc X own own1 [st] q1:=⟨λG0 F0=>eV nX_⟩
def SR.free(s:eP!):SR KF [] G0 F0 eG! H Z ρ:=by
 have o:=s.or.full;refine⟨o,⟨iZ!,s.ext.h,o.sub,aY_⟩,an_⟩
 .have z:=s.ext.g b u e;unfold Ja;split
  .exact s.or.sub b u z
  .exact z
 .unfold Ja at h;split at h
  .rename_i hb;obtain⟨i,hi,q⟩:=lC hb;exact .inr (s.fr i hi b q)
  .exact s.ext.new b h
def tR(h:Wc X [] jp rest q1):Wc X own jp rest q1:=⟨λG0 F0 h1 s Z H E I ⟨G,ρ,r,er,e,k⟩=>h.ok G0 F0 h1 s Z H E I ⟨_,ρ,r,er.free,e,k⟩⟩
def As(f:i_):Ab->Option Fl:=λρ=>(aj_).map Fl.rt
def bL(h:dx!):DS X own own1 ly_ (As f):=c2q (b2m h.ok) λG0 F0 E Z G H ρ r er e' k=>by
 obtain⟨d,e1,rfl⟩:=GX.mp e';exact⟨G,ρ,d,er.or,e1,λv G' H' x r=>k v G' H' (er.ext.trans x) r⟩
def Bf(i:Nat)(f:i_):Ab->Option Fl:=λρ=>(aj_).map λd=>.nx bs!
def dH(hN:aH!)(hi:ac!)(hx:aS_)(h:dx!)(bx:aC!:=by decide)(hs:nY!:=by rfl)
  (hf:X.fn x=true\/X.env.scope.names.lookup x=some .local:=by first|exact .inl rfl|exact .inr rfl|assumption):DS X own own xG! (Bf i f):=
 c2q xH! λG0 F0 E Z G H ρ r er e' k=>by
  obtain⟨d,e1,rfl⟩:=GX.mp e';exact⟨G,ρ,d,er.or,e1,λv G' H' x r=>k G' _ H' ((jj_).set bx r)⟩
def Dr(ft:aZ!)(q1 q2:bg!):Ab->Option Fl:=λρ=>(gm!).bind λb=>if b then q1 ρ else q2 ρ
def fD(hc:wX!)(Y:Wc X own own1 b1 q1)(h2:Wc X own own1 b2 q2):DS X own own1 nY_ (Dr ft q1 q2):=⟨by
 rintro G0 F0 h1 s Z H E I ⟨G,ρ,r,er,e',k⟩;refine b2o hc.ok nX_ xF! h1 s Z H E I ?_;obtain⟨x,e1,e2⟩:=GN.mp e';refine⟨G,ρ,x,er.or,e1,λG' H' x'=>?_⟩;cases x with
 |true=>exact jS xH_
 |false=>exact jT xH_⟩
def Nb(i:Nat)(fs:aC_):Ab->Option Fl:=λρ=>(eH!).bind λds=>if e_<=1000 then some (.nx nZ!)else none
def SR.ownNew(s:eP!)(hi:aC!)(hl:i<dX!)(r:jk!)(hp:ch!):
  SR KF (i::own) G0 F0 G iY_ xJ_ nZ!:=by
 have yj:i<gi!:=by rw[s.or.len];exact hl
 have yk:Ar H iY_:=gW hp;show"#;";refine⟨⟨xI_,by rw[LP,LP,s.or.len],xJ!,xK!,λj hj k hk hne a b e1 e2=>?_⟩,⟨s.ext.g,s.ext.h.trans yk,xI_,s.ext.new⟩,λj hj a e=>?_⟩
 .have c8:i≠j:=λz=>n (by rw[z];exact GR);rw[dC!]at q ⊢;exact s.or.at_ j d q λz=>n eP_
 .obtain z|z:=GT.mp hj
  .subst z;exact⟨p,ds,vs,xK_,by rw[IS hl],bK,s.or.sub.free hp,r⟩
  .have c8:i≠j:=λy=>hi (y▸z);obtain⟨a,q9,gc,Y,h2,h3,h4,h5⟩:=s.or.own_ j z;exact⟨a,q9,gc,by rw[dC!];exact Y,by rw[dC!];exact h2,by rw[aW (ne h3)];exact h3,h4,h5⟩
 .have look:∀{j:Nat} {a:yz!},j∈i::own->xJ_[j]?=some jl!->(j=i/\a=p)\/(j≠i/\j∈own/\Z[j]?=some jl!/\a≠p):=λ{j a} hj e=>by
   by_cases c8:i=j
   .subst c8;rw[IS hl]at e;cases e;exact .inl aI_
   .rw[dC!]at e;have hm:j∈own:=(GT.mp hj).elim xL! id;obtain⟨a',q9,gc,Y,h2,h3,h4,h5⟩:=s.or.own_ j hm;rw[e]at h2;cases h2;exact .inr ⟨IA c8,hm,e,ne h3⟩
  obtain⟨z1,z2⟩|⟨z1,z2,z3,z4⟩:=look hj e1
  .obtain⟨y1,y2⟩|⟨y1,y2,y3,y4⟩:=look hk e2
   .exact absurd (z1.trans y1.symm) hne
   .rw[z2];exact IA y4
  .obtain⟨y1,y2⟩|⟨y1,y2,y3,y4⟩:=look hk e2
   .rw[y2];exact z4
   .exact s.or.dis j z2 k y2 hne a b z3 y3
 .by_cases c8:i=j
  .subst c8;rw[IS hl]at e;cases e;exact s.ext.h.free hp
  .rw[dC!]at e;exact s.fr j ((GT.mp hj).elim xL! id) a e
def pL{p4:Pos}(hN:aH!)(hi:ac!)(hx:aS_)(h:i5!)(bx:aC!:=by decide)
  (hf:X.fn x=true\/X.env.scope.names.lookup x=some .local:=by first|exact .inl rfl|exact .inr rfl|assumption)(fh:swapsWith nZ_ (some (.Name x p3)) p4.line X.env=pure false:=by rfl):DS X own (i::own) (.Assign [.Name x p3] nZ_ p4) (Nb i fs):=⟨by
  rintro G0 F0 h1 s Z H E I ⟨G,ρ,r,er,e',k⟩;refine sH hN hi hx nG! fh hf h1 s Z H E I ?_;have hl:i<dX!:=by rw[I.len];exact(HG.mp hi).1
  obtain⟨ds,e1,e2⟩:=GN.mp e';split at e2
  .rename_i hsz;cases e2;exact⟨G,ρ,ds,er.or,e1,λvs G' H' x r=>⟨by rw[<-aH r];exact fB hsz,λp hp=>k G' _ _ ((jj_).ownNew bx hl r hp)⟩⟩
  .cases e2⟩
def SR.upd(s:eP!)(hi:eF_)(hp:ws!)(r:jk!):
  SR KF own G0 F0 G iY_ Z nZ!:=by
 obtain⟨p',q9,gc,Y,h2,h3,h4,h5⟩:=s.or.own_ i hi;rw[hp]at h2;cases h2;have hG:∀{b u},G b=some u->b≠p:=λe=>cD e h4;have hF:∀{b u},F0 b=some u->b≠p:=λe=>cD e (s.fr i hi p hp);have yj:i<gi!:=(gt_).1;refine⟨⟨xL_,by rw[LP,s.or.len],xJ!,xK!,s.or.dis⟩,⟨s.ext.g,λb u e=>by rw[aW (hF e)];exact s.ext.h b u e,xL_,s.ext.new⟩,s.fr⟩
 .have c8:i≠j:=λz=>n (z▸hi);rw[dC!]at q;exact s.or.at_ j d q n
 .by_cases c8:i=j
  .subst c8;exact⟨p,ds,vs,xK_,hp,bK,h4,r⟩
  .obtain⟨a,XT,vw,g1,g2,g3,g4,g5⟩:=s.or.own_ j hj;have ne:a≠p:=IA (s.or.dis i hi j hj c8 p a hp g2);exact⟨a,XT,vw,by rw[dC!];exact g1,g2,by rw[aW ne];exact g3,g4,g5⟩
def Nc(i:Nat)(f:i_):Ab->Option Fl:=λρ=>(aj_).bind λd=>match ρ[i]? with|some (some (.lst ds))=>if e_<big then some xM_ else none|_=>none
def pM(bx:eF_:=by decide)(h:dx!)(hN:ac!:=by rfl)(hv:cy!:=by first|exact Or.inl rfl|exact Or.inr d!|exact Or.inr at!)
  (hd:x!:=by decide)(bz:cy_:=by decide)
  (hst:jm!:=by rfl)(iy:((mX!).all cH!&&(cH_).all cI!
   &&decide xN!)=true:=by rfl) (iz:es!:=by rfl)
  (iu:attributeBase bR_ "append" X.env n0_=eval bR_ X.env:=by rfl) (ja:gu!:=by rfl) (gu:swapsWith xN_ none pos.line X.env=pure false:=by rfl):
  DS X own own (.Expr xN_ pos) (Nc i f):=⟨by
  rintro G0 F0 h1 s Z H E I ⟨G,ρ,r,er,e',k⟩;refine qN (a0z NY PySem.F.slot_list_append PySem.F.type_list_append vV nA! xO! iu iy iz hst ja) gu h1 s Z H E I ?_;obtain⟨d,e1,e2⟩:=GN.mp e';obtain⟨p,ds,vs,Y,h2,h3,h4,h5⟩:=er.or.own_ i bx;rw[Y]at e2;simp only at e2;split at e2
  .rename_i hl;cases e2;refine⟨gu_,h2,xO_,G,ρ,d,er.or,e1,λv G' H' x r=>⟨p,vs,v,rfl,rfl,x.h _ _ h3,?_,?_⟩⟩
   .rw[<-aH h5];exact HY hl (cV u!)
   .exact k G' Z _ ((jj_).upd bx h2 (cS xP! (Af.cons r Af.nil)))
  .cases e2⟩
def Sl(i:Nat)(fx fv:i_):Ab->Option Fl:=λρ=>(fv ρ).bind λd=>(fx ρ).bind λx=>match x,ρ[i]? with|.int j,some (some (.lst ds))=>(n2!).map λk=>.nx xP_|_,_=>none
def b6k(bx:eF_:=by decide)(hx:xQ!)(hv:DE X own e fv)(hN:ac!:=by rfl)(ym:cy!:=by first|exact Or.inl rfl|exact Or.inr d!|exact Or.inr at!)
  (hd:x!:=by decide)(bz:cy_:=by decide)
  (ha:∀v,assign xQ_ X.env v=(do
   let ov <-holding [v] n0_
   let iv <-holding [v,ov] (eval ix X.env)
   standAt p2
   holding d3_ lA_
   release d3_ []):=by intro _;rfl)
  (hs:swapsWithSole jm_ e pos.line X.env=pure false:=by rfl) (hw:swappedStores jm_ e X.env=pure none:=by rfl)
  (Y:(assignEach jm_ X.env).map X_=[assign xQ_ X.env]:=by rfl):
  DS X own own (.Assign jm_ e pos) (Sl i fx fv):=⟨by
  rintro G0 F0 h1 s Z H E I ⟨G,ρ,r,er,e',k⟩;refine b2p hv.ok (b2u xR! hx.ok a0h ha) hs hw Y h1 s Z H E I ?_;obtain⟨d,e1,e2⟩:=GN.mp e';obtain⟨z,e3,e4⟩:=GN.mp e2;obtain⟨p,ds,vs,Y,h2,h3,h4,h5⟩:=er.or.own_ i bx;rw[Y]at e4;cases z<;>first|cases e4|skip
  rename_i j;obtain⟨n,e5,rfl⟩:=GX.mp (show(n2!).map _=some r from e4);refine⟨G,ρ,d,er.or,e1,λv G' H' x r=>⟨gu_,h2,G',ρ,d6!,er.or.grow x,e3,xR_⟩⟩;cases aX r2;refine⟨p,vs,j,n,rfl,rfl,(x.trans x2).h _ _ h3,by rw[<-aH h5];exact e5,?_⟩;exact k G2 Z _ (((jj_).grow x2).upd bx h2 (rZ (r.mono x2.g) n ((xP!).mono x2.g)))⟩
def On(i:Nat)(fx:i_):Ab->Option D:=λρ=>(fx ρ).bind λx=>match x,ρ[i]? with|.int j,some (some (.lst ds))=>atI ds j|_,_=>none
def zP(bx:eF_:=by decide)(hx:xQ!)(hs:Ni ix)(hN:ac!:=by rfl)(ym:cy!:=by first|exact Or.inl rfl|exact Or.inr d!|exact Or.inr at!)
  (hd:x!:=by decide)(bz:cy_:=by decide):DE X own (.Subscript bR_ ix pos) (On i fx):=
 eB (b3c a7o xR! hx.ok hs) λZ G H Q ρ d er e k=>by
  obtain⟨z,e3,e4⟩:=GN.mp e;obtain⟨p,ds,vs,Y,h2,h3,h4,h5⟩:=er.own_ i bx;rw[Y]at e4;cases z<;>first|cases e4|skip
  rename_i j;have e5:atI ds j=some d:=e4;obtain⟨v,e6,r6⟩:=mO h5 e5;refine⟨gu_,h2,G,ρ,d6!,er,e3,xR_⟩;cases aX r2;exact⟨p,vs,j,v,rfl,rfl,Ef.of (x2.h _ _ h3),e6,k v G2 H2 x2 (r6.mono x2.g)⟩
def Oi(bnd:aM_)(q:bg!):List D->Ab->Option Fl
 |[],ρ=>some Z_
 |d::ds,ρ=>(jh_).bind λaj=>(q aj).bind λr=>match r with|.nx bd=>Oi bnd q ds bd|.rt d=>some af!
def Li(fi:aC_)(bnd:aM_)(q:bg!):Ab->Option Fl:=λρ=>(fi ρ).bind λds=>Oi bnd q ds ρ
def Oo(F0 G1:Hp):Hp:=λb=>match F0 b with|some o=>some o|none=>G1 b
def SR.base(s:SR KF own G0 F0 G1 H1 Z ρ):SR KF own G1 gv_ G1 H1 Z ρ:=by
 refine⟨s.or,⟨Ar.refl _,iZ!,s.or.sub,cS_⟩,xS_⟩
 .unfold Oo at e;show"!6"
  .rename_i o ho;cases e;exact s.ext.h b _ ho
  .exact s.or.sub b u e
 .obtain⟨p',ds,vs,Y,h2,h3,h4,h5⟩:=s.or.own_ i hi;rw[e]at h2;cases h2;unfold Oo;rw[s.fr i hi p e];exact h4
def tN(x:xT_)(y:Br G1 gv_ G' H'):Br G0 F0 G' H':=by
 refine⟨x.g.trans y.g,λb u e=>y.h b u ?_,y.sub,aY_⟩
 .unfold Oo;rw[e]
 .obtain z|z:=y.new b h
  .exact x.new b z
  .right;unfold Oo at z;split at z
   .cases z
   .assumption
def SR.unbase(x:xT_)(s:SR KF own G1 gv_ G' H' Z ρ):SR KF own G0 F0 G' H' Z ρ:=
 ⟨s.or,tN x s.ext,λi hi p e=>by
  have z:=s.fr i hi p e;unfold Oo at z;split at z
  .cases z
  .assumption⟩
def Bd(i:Nat):D->Ab->Option Ab:=λd ρ=>some bs!
def zL(hp:d4!)(hc:aq_)(al:DI X own cR! iter fi)(hN:aH!)(hi:ac!)(hx:aS_)(hb:Wc X own own body q1)(bx:aC!:=by decide)
  (hf:X.fn x=true\/X.env.scope.names.lookup x=some .local:=by first|exact .inl rfl|exact .inr rfl|assumption)(hs:b5_:=by intro _;rfl):
  DS X own own (.For cR! iter body [] pos) (Li fi (Bd i) q1):=⟨by
 rintro G0 F0 h1 s Z H E I ⟨G,ρ,r,er,e',k⟩;obtain⟨ds,e1,e2⟩:=GN.mp e';have ic:Lx X body (λE Z H=>∃A B,CA X.K A B own own q1 E Z H):=λh1 s Z H E I ⟨A,B,h⟩=>hb.ok A B h1 s Z H E I h;refine a3w hp hc al.ok (bC hN hi hx hf) ic hs h1 s Z H E I ⟨G,ρ,ds,er.or,e1,xD!⟩;have TV:Br G0 F0 G1 H1:=er.ext.trans x1;refine⟨λn m ae H'=>n<=e_/\m=e_ - n/\∃G' ρ',SR X.K own G1 gv_ G' H' ae ρ'/\Oi (Bd i) q1 iX! ρ'=some r,
  ⟨e_,IF _,rfl,G1,ρ,(xD_).base,e2⟩,?_⟩
 rintro n m ae H' ⟨hn,rfl,G',ρ',cz,e3⟩;obtain⟨j5,j6⟩:=dr n G' H' cz.ext.g cz.or.sub;by_cases ai:n<e_
 .right;have hd:ds[n]?=some ds[n]:=by simp[ai]
  have yi:ds.drop n=ds[n]::ds.drop cT_:=KA ai;rw[yi]at e3;unfold Oi at e3;obtain⟨aj,e4,e3⟩:=GN.mp e3;obtain⟨r1,e5,e3⟩:=GN.mp e3;cases e4;obtain⟨go,yl⟩:=j5 _ hd;refine⟨go,λcm H2=>∃G2 bd,SR X.K own G1 gv_ G2 H2 cm bd/\Oi (Bd i) q1 xU! bd=some r,λcm H2 ⟨G2,bd,Y,h2⟩=>⟨e_ - cT_,m_,ai,rfl,G2,bd,Y,h2⟩,nV_⟩;obtain⟨G2,x2,r2⟩:=yl v H2 hy;refine⟨G1,Oo F0 G1,G2,_,r1,(xz!).set bx r2,e5,?_⟩;cases r1 with
  |nx bd=>exact λG3 f7 H3 j7=>⟨G3,bd,j7,e3⟩
  |rt d=>
   cases e3;exact λw G3 H3 x3 r3=>k w G3 H3 (tN TV x3) r3
 .left;have f9:n=e_:=by omega
  refine jo_;rw[f9,ON]at e3;cases e3;exact k G' ae H' (SR.unbase TV cz)⟩
def rS(s:B!)(r:jk!):OR KF [] G H (L2.Kn N vs) gx_:=by
 have hl:=aH r;unfold L2.Kn;refine⟨s,by simp[hl],nw_,an_,an_⟩;by_cases hi:i<e_
 .rw[ik!,IK]at q;obtain⟨d',Y,h2⟩:=GX.mp q;cases h2;obtain⟨v,h3,h4⟩:=gJ r Y;exact⟨v,by rw[LB (by simpa[<-hl]using hi),IK,h3];rfl,h4⟩
 .rw[ek!,KJ]at q;split at q<;>cases q
end
def c6a{st:Stmt}
  (F:xV!)(S:cK!)
  (hb:∀(ah:yB!) (A:yA!) (outer:ai!) (s:yM!) (H:Hp) (E:XK),Ah k n5!->Wc (n5_).nox [] cu be! q)
  (hg:∀ds d,e_=O!->g ds=some d->q gx_=some af!\/∃ρ,q gx_=some Z_/\d=.non):
  Em P w KF mg base Ng S_ af fd ps n6!:=by
 refine xW!;obtain⟨hl,G,ds,d,sub,r,e,kk⟩:=h;refine⟨_,(xW_).ok G H,?_⟩;have er:=rS (N:=N) sub r;rcases hg ds d (by rw[aH r];exact hl) e with z|⟨ρ,z,rfl⟩
 .exact⟨G,_,_,xX!,z,λv G' H' x r=>kk v G' H' x r⟩
 .exact⟨G,_,_,xX!,z,λG' ae H' cz=>kk _ G' H' cz.ext Aj.non⟩
mutual
noncomputable def eqD:D->D->Bool
 |.non,.non=>true
 |.bl a,.bl b=>a==b
 |.bl a,.int b=>uk!==b
 |.int a,.bl b=>a==uk_
 |.int a,.int b=>a==b
 |.str a,.str b=>a==b
 |.tup xs,.tup ys=>Fq xs ys
 |.lst xs,.lst ys=>Fq xs ys
 |_,_=>false
noncomputable def Fq:List D->List D->Bool
 |[],[]=>true
 |x::xs,y::ys=>eqD x y&&Fq xs ys
 |_,_=>false
end
mutual
noncomputable def Aw:D->Bool
 |.fn _=>false
 |.dk _=>false
 |.tup xs=>Bt xs
 |.lst xs=>Bt xs
 |_=>true
noncomputable def Bt:List D->Bool
 |[]=>true
 |d::ds=>Aw d&&Bt ds
end
section
variable{X:Cx}
def rQ(I:a_)(h:jp!)(h':Ef X.K H a ws):False:=by obtain⟨_,_,⟨o,e,c,_⟩,_⟩:=I.tuple h;obtain⟨_,_,⟨o',n,e',c',_⟩,_⟩:=I.list h';rw[e]at e';cases e';rw[c]at c';exact absurd c' d_
mutual
theorem xB(I:a_):∀(d d':D) (v:V),Aw d=true->Aw d'=true->Aj X.K H d v->Aj X.K H d' v->d=d'
 |.non,d',v,n,n',r,r'=>by
  cases dY r;cases d'<;>first
   |rfl
   |(unfold Aj at r';cases r';done)
   |(obtain⟨a,vs,e,_⟩:=bN r';cases e)
   |(obtain⟨a,vs,e,_⟩:=bJ r';cases e)
   |(unfold Aw at n';cases n')
 |.bl b,d',v,n,n',r,r'=>by
  cases cR r;cases d'<;>first
   |(cases cR r';rfl;done)
   |(unfold Aj at r';cases r';done)
   |(obtain⟨a,vs,e,_⟩:=bN r';cases e)
   |(obtain⟨a,vs,e,_⟩:=bJ r';cases e)
   |(unfold Aw at n';cases n')
 |.int b,d',v,n,n',r,r'=>by
  cases aX r;cases d'<;>first
   |(cases aX r';rfl;done)
   |(unfold Aj at r';cases r';done)
   |(obtain⟨a,vs,e,_⟩:=bN r';cases e)
   |(obtain⟨a,vs,e,_⟩:=bJ r';cases e)
   |(unfold Aw at n';cases n')
 |.str b,d',v,n,n',r,r'=>by
  cases bT r;cases d'<;>first
   |(cases bT r';rfl;done)
   |(unfold Aj at r';cases r';done)
   |(obtain⟨a,vs,e,_⟩:=bN r';cases e)
   |(obtain⟨a,vs,e,_⟩:=bJ r';cases e)
   |(unfold Aw at n';cases n')
 |.tup xs,d',v,n,n',r,r'=>by
  obtain⟨a,vs,rfl,q,rr⟩:=bN r;cases d' with
  |tup ys=>
   obtain⟨a',gc,e,q',b6⟩:=bN r';cases e;have:=I.tuple_inj q q';subst this;unfold Aw at n n';rw[xY!]
  |lst ys=>
   obtain⟨a',gc,e,q',b6⟩:=bJ r';cases e;exact(rQ I q q').elim
  |fn b=>unfold Aw at n';cases n'
  |dk b=>unfold Aw at n';cases n'
  |non=>cases dY r'
  |bl b=>cases cR r'
  |int b=>cases aX r'
  |str b=>cases bT r'
 |.lst xs,d',v,n,n',r,r'=>by
  obtain⟨a,vs,rfl,q,rr⟩:=bJ r;cases d' with
  |lst ys=>
   obtain⟨a',gc,e,q',b6⟩:=bJ r';cases e;have:=I.list_inj q q';subst this;unfold Aw at n n';rw[xY!]
  |tup ys=>
   obtain⟨a',gc,e,q',b6⟩:=bN r';cases e;exact(rQ I q' q).elim
  |fn b=>unfold Aw at n';cases n'
  |dk b=>unfold Aw at n';cases n'
  |non=>cases dY r'
  |bl b=>cases cR r'
  |int b=>cases aX r'
  |str b=>cases bT r'
 |.fn a,d',v,n,n',r,r'=>by unfold Aw at n;cases n
 |.dk a,d',v,n,n',r,r'=>by unfold Aw at n;cases n
theorem sB(I:a_):∀(ds es:b!) (vs:o!),Bt ds=true->Bt es=true->Af X.K H ds vs->Af X.K H es vs->ds=es
 |[],es,vs,n,n',r,r'=>by
  cases bY r;cases es with
  |nil=>rfl
  |cons e es=>obtain⟨v,t,z,_⟩:=bE r';cases z
 |d::ds,es,vs,n,n',r,r'=>by
  obtain⟨v,t,rfl,r1,r2⟩:=bE r;cases es with
  |nil=>cases bY r'
  |cons e es=>
   obtain⟨v',t',z,yn,yo⟩:=bE r';cases z;unfold Bt at n n';rw[HQ]at n n';rw[xB I d e v n.1 n'.1 r1 yn,sB I ds es t n.2 n'.2 r2 yo]
end
mutual
theorem kP:∀d:D,Aw d=true->eqD d d=true
 |.non,_=>by simp[eqD]
 |.bl b,_=>by simp[eqD]
 |.int i,_=>by simp[eqD]
 |.str s,_=>by simp[eqD]
 |.tup xs,h=>by unfold eqD;exact pJ xs xY_
 |.lst xs,h=>by unfold eqD;exact pJ xs xY_
 |.fn a,h=>by simp[Aw]at h
 |.dk k,h=>by simp[Aw]at h
theorem pJ:∀ds:List D,Bt ds=true->Fq ds ds=true
 |[],_=>by simp[Fq]
 |d::ds,h=>by
  unfold Bt at h;rw[HQ]at h;unfold Fq;rw[kP d h.1,pJ ds h.2];rfl
end
def a0n(I:a_)(d d':D)(v:V)(n:cl_)(n':eR_)(r:dC_)(r':Aj X.K H d' v):eqD d d'=true:=by rw[<-xB I d d' v n n' r r'];exact kP d n
def fZ(A:yA!):A.in1.units=A.units+1:=rfl
def kU:∀(xs ys:b!),g!=P!->((List.range g!).all λj=>eqD (xs.getD j .non) (ys.getD j .non))=Fq xs ys
 |[],[],_=>rfl
 |x::xs,y::ys,h=>by
  have ih:=kU xs ys jq!;unfold Fq;rw[HJ,List.range_succ_eq_map,NE,<-ih,List.all_map];rfl
 |[],_::_,h=>by simp at h
 |_::_,[],h=>by simp at h
def kQ:∀(xs ys:b!),g!≠P!->Fq xs ys=false
 |[],[],h=>absurd rfl h
 |x::xs,y::ys,h=>by
  unfold Fq;rw[kQ xs ys jq!,QP]
 |[],_::_,_=>rfl
 |_::_,[],_=>rfl
def nR(rd:gz!)(re:gz_)(rv:dZ!)(ax:Aq ws us')
  (h:∀(j:Nat) u u',us[j]?=some u->us'[j]?=some u'->SeqAt.EqAt A s u u' jq_):
  ∀j (Y:j<jr!) (h2:j<n8!),SeqAt.EqAt A s cf![j] n8_[j] jq_:=λj Y h2=>by
 have l1:j<W_:=by simpa using Y
 have l2:j<us'.length:=by simpa using h2
 exact h j _ _ (by simp[l1]) (by simp[l2])
def vJ(I:a_)(qa:jp!)(qb:xZ_)(rd:gz!)(re:gz_)(hu:ao!)
  (h:js!):SeqAt.RcAt A s E! el_ (Fq ds es):=by
 obtain⟨us,rv,p1,_⟩:=I.tuple qa;obtain⟨us',ax,p2,_⟩:=I.tuple qb;have Y:=aH rd;have h2:=aH re;have h3:=d4_;have h4:=jt_;have z:=SeqAt.RcAt.tuples (A:=A) (e:=js_) p1 p2 hu jt!;have e:x1!=Fq ds es:=by
  show"#9"
  .rw[hl,Nat.min_self,<-hl,ju!,hl];simp
  .rw[ju_];have:(e_==aa_)=false:=by simpa using hl
   rw[this,QP]
 rw[e]at z;exact z
def a0s(I:a_)(qa:n9!)(qb:x2_)(rd:gz!)(re:gz_)(hu:ao!)
  (h:js!):SeqAt.RcAt A s E! el_ (Fq ds es):=by
 show"!B";have h4:=jt_;by_cases hl:e_=aa_
 .have z:=SeqAt.RcAt.lists (A:=A) (e:=js_) p1.isList p2.isList nI! hu jt!;rw[GW,<-h3,<-Y,ju!]at z;exact z
 .rw[ju_];exact SeqAt.RcAt.lists_lengths p1.isList p2.isList x2! hu
def b5i(I:a_)(q:jp!):∃items,s.heap.IsTuple a items:=let⟨its,_,p,_⟩:=I.tuple q;⟨_,p⟩
def b0f(I:a_)(q:n9!):∃items,s.heap.IsList a items:=let⟨its,_,p,_⟩:=I.list q;⟨_,p.isList⟩
inductive RV(X:Cx)(H:Hp)(s:yM!):D->Value->Prop
 |non:RV X H s .non .none
 |bl (b:Bool):RV X H s aI! lr!
 |int (i:Int) (t:Tok):RV X H s N! da!
 |str (x:Str) (t:Tok):RV X H s b2_ fm_
 |tup {xs:b!} {a:yz!} {its:bi_}:s.heap.IsTuple a its->RV X H s aQ_ E!
 |lst {xs:b!} {a:yz!} {its:bi_}:s.heap.IsList a its->RV X H s A_ E!
def vD(I:a_)(n:cl_)(r:dC_)(ru:aT!):RV X H s d u:=by
 cases d with
 |non=>cases dY r;cases ru;exact .non
 |bl b=>cases cR r;cases ru;exact .bl b
 |int b=>cases aX r;obtain⟨t,rfl⟩:=ru;exact .int b t
 |str b=>cases bT r;obtain⟨t,rfl⟩:=ru;exact .str b t
 |tup ys=>obtain⟨a,ws,rfl,q,_⟩:=bN r;cases ru;obtain⟨its,p⟩:=b5i I q;exact .tup p
 |lst ys=>obtain⟨a,ws,rfl,q,_⟩:=bJ r;cases ru;obtain⟨its,p⟩:=b0f I q;exact .lst p
 |fn a=>unfold Aw at n;cases n
 |dk a=>unfold Aw at n;cases n
def kR(I:a_)(n:cl_)(n':eR_)(hu:ao!)(r:dC_)(r':gA_)(ru:aT!)(az:gB!)(hT:∀xs ys,d=.tup xs->d'=.tup ys->SeqAt.EqAt A s u u' cU!)(hL:∀xs ys,d=.lst xs->d'=.lst ys->SeqAt.EqAt A s u u' cU!):SeqAt.EqAt A s u u' cU!:=by
 show"!i"
 all_goals first|exact hT _ _ rfl rfl|exact hL _ _ rfl rfl|(unfold eqD;with_reducible first|exact .none_none|exact .same _|exact .none_bool _|exact .none_int _ _|exact .none_str _ _|exact .none_tuple ‹_› hu|exact .none_list ‹_› hu|exact .bool_none _|exact .bool_bool _ _|exact .bool_int _ _ _|exact .bool_str _ _ _|exact .bool_tuple _ ‹_› hu|exact .bool_list _ ‹_› hu|exact .int_none _ _|exact .int_bool _ _ _|exact .int_int _ _ _ _|exact .int_str _ _ _ _|exact .int_tuple _ _ ‹_› hu|exact .int_list _ _ ‹_› hu|exact .str_none _ _|exact .str_bool _ _ _|exact .str_int _ _ _ _|exact .str_str _ _ _ _|exact .str_tuple _ _ ‹_› hu|exact .str_list _ _ ‹_› hu|exact .tuple_none ‹_› hu|exact .tuple_bool _ ‹_› hu|exact .tuple_int _ _ ‹_› hu|exact .tuple_str _ _ ‹_› hu|exact .tuple_list ‹_› ‹_› hu|exact .list_none ‹_› hu|exact .list_bool _ ‹_› hu|exact .list_int _ _ ‹_› hu|exact .list_str _ _ ‹_› hu|exact .list_tuple ‹_› ‹_› hu)
def c3j(I:a_)(n:cl_)(n':eR_)(hu:ao!)(r:dC_)(r':gA_)(ru:aT!)(az:gB!)(hT:∀xs ys,d=.tup xs->d'=.tup ys->SeqAt.RcAt A s u u' cU!)(hL:∀xs ys,d=.lst xs->d'=.lst ys->SeqAt.RcAt A s u u' cU!):SeqAt.RcAt A s u u' cU!:=by
 show"!i"
 all_goals first|exact hT _ _ rfl rfl|exact hL _ _ rfl rfl|(unfold eqD;with_reducible first|exact .none_none|exact .same _|exact .none_bool _|exact .none_int _ _|exact .none_str _ _|exact .none_tuple ‹_› hu|exact .none_list ‹_› hu|exact .bool_none _|exact .bool_bool _ _|exact .bool_int _ _ _|exact .bool_str _ _ _|exact .bool_tuple _ ‹_› hu|exact .bool_list _ ‹_› hu|exact .int_none _ _|exact .int_bool _ _ _|exact .int_int _ _ _ _|exact .int_str _ _ _ _|exact .int_tuple _ _ ‹_› hu|exact .int_list _ _ ‹_› hu|exact .str_none _ _|exact .str_bool _ _ _|exact .str_int _ _ _ _|exact .str_str _ _ _ _|exact .str_tuple _ _ ‹_› hu|exact .str_list _ _ ‹_› hu|exact .tuple_none ‹_› hu|exact .tuple_bool _ ‹_› hu|exact .tuple_int _ _ ‹_› hu|exact .tuple_str _ _ ‹_› hu|exact .tuple_list ‹_› ‹_› hu|exact .list_none ‹_› hu|exact .list_bool _ ‹_› hu|exact .list_int _ _ ‹_› hu|exact .list_str _ _ ‹_› hu|exact .list_tuple ‹_› ‹_› hu)
mutual
theorem b6c(I:a_):∀(d d':D) (A:yA!) (v v':V) (u u':yB!),Aw d=true->Aw d'=true->A.units+dep d<cLine->Aj X.K H d v->Aj X.K H d' v'->Be v u->Be v' u'->SeqAt.EqAt A s u u' cU!
 |.non,d',A,v,v',u,u',n,n',hu,r,r',ru,az=>kR I n n' a! r r' ru az aO! aO!
 |.bl _,d',A,v,v',u,u',n,n',hu,r,r',ru,az=>kR I n n' a! r r' ru az aO! aO!
 |.int _,d',A,v,v',u,u',n,n',hu,r,r',ru,az=>kR I n n' a! r r' ru az aO! aO!
 |.str _,d',A,v,v',u,u',n,n',hu,r,r',ru,az=>kR I n n' a! r r' ru az aO! aO!
 |.fn _,d',A,v,v',u,u',n,n',hu,r,r',ru,az=>kR I n n' a! r r' ru az aO! aO!
 |.dk _,d',A,v,v',u,u',n,n',hu,r,r',ru,az=>kR I n n' a! r r' ru az aO! aO!
 |.tup xs,d',A,v,v',u,u',n,n',hu,r,r',ru,az=>kR I n n' a! r r' ru az (λ_ ys e e'=>by
  cases e;subst e';obtain⟨a,vs,rfl,q,rr⟩:=bN r;obtain⟨b,ws,rfl,q',b6⟩:=bN r';cases ru;cases az;by_cases l9:a=b
  .subst l9;rw[x3!];exact .same _
  .unfold Aw at n n';unfold dep at hu;unfold eqD;exact .of_refs l9 (vJ I q q' rr b6 a! λus us' rv ax=>jL I xs ys A.in1 vs ws us us' n n' eT_ rr b6 rv ax)) aO!
 |.lst xs,d',A,v,v',u,u',n,n',hu,r,r',ru,az=>kR I n n' a! r r' ru az aO! (λ_ ys e e'=>by
  cases e;subst e';obtain⟨a,vs,rfl,q,rr⟩:=bJ r;obtain⟨b,ws,rfl,q',b6⟩:=bJ r';cases ru;cases az;by_cases l9:a=b
  .subst l9;rw[x3!];exact .same _
  .unfold Aw at n n';unfold dep at hu;unfold eqD;exact .of_refs l9 (a0s I q q' rr b6 a! λus us' rv ax=>jL I xs ys A.in1 vs ws us us' n n' eT_ rr b6 rv ax))
theorem jL(I:a_):∀(ds es:b!) (A:yA!) (vs ws:o!) (us us':j_),Bt ds=true->Bt es=true->A.units+Dt ds<cLine->Af X.K H ds vs->Af X.K H es ws->Aq vs us->Aq ws us'->
  ∀(j:Nat) u u',us[j]?=some u->us'[j]?=some u'->SeqAt.EqAt A s u u' jq_
 |[],es,A,vs,ws,us,us',n,n',hu,r,r',rv,ax,j,u,u',e,e'=>by
  cases bY r;cases rv;simp at e
 |d::ds,es,A,vs,ws,us,us',n,n',hu,r,r',rv,ax,j,u,u',e,e'=>by
  obtain⟨v,t,rfl,r1,r2⟩:=bE r;cases es with
  |nil=>
   cases bY r';cases ax;simp at e'
  |cons c es=>
   obtain⟨w,t',rfl,yn,yo⟩:=bE r';unfold Bt at n n';rw[HQ]at n n';unfold Dt at hu;cases rv with
   |cons me oz=>
    cases ax with
    |cons XU XV=>
     cases j with
     |zero=>
      simp at e e';subst e e';exact b6c I d c A v w _ _ n.1 n'.1 a! r1 yn me XU
     |succ j=>
      exact jL I ds es A t t' _ _ n.2 n'.2 a! r2 yo oz XV j u u' ct_ (by simpa using e')
end
def c3k(I:a_)(d d':D)(n:cl_)(n':eR_)(hu:x4!)(r:dC_)(r':gA_)(ru:aT!)(az:gB!):SeqAt.RcAt A s u u' cU!:=
 c3j I n n' a! r r' ru az (λxs ys e e'=>by
  subst e e';obtain⟨a,vs,rfl,q,rr⟩:=bN r;obtain⟨b,ws,rfl,q',b6⟩:=bN r';cases ru;cases az;unfold Aw at n n';unfold dep at hu;unfold eqD;exact vJ I q q' rr b6 a! λus us' rv ax=>jL I xs ys A.in1 vs ws us us' n n' eT_ rr b6 rv ax) (λxs ys e e'=>by
  subst e e';obtain⟨a,vs,rfl,q,rr⟩:=bJ r;obtain⟨b,ws,rfl,q',b6⟩:=bJ r';cases ru;cases az;unfold Aw at n n';unfold dep at hu;unfold eqD;exact a0s I q q' rr b6 a! λus us' rv ax=>jL I xs ys A.in1 vs ws us us' n n' eT_ rr b6 rv ax)
def AT(KF:zr!):R2:=λx y H Q=>∃dx dy,Aj KF H dx x/\Aj KF H dy y/\Aw dx=true/\Aw dy=true/\dep dx<=40/\Q (.bl (eqD dx dy)) H
def bP(hu:ab!):Fw X (compareOp .Eq) (AT X.K):=by intro h1 s Z H x y v u Q I rx ry h;obtain⟨dx,dy,r1,r2,n1,n2,hd,q⟩:=h;exact c3k I dx dy n1 n2 a! r1 r2 rx ry X.prog X.w X.xe _ x5!
nonrec def eqD':D->D->Option D:=λx y=>if Aw x&&Aw y&&decide x5_ then some (.bl (eqD x y))else none
def bQ{KF:zr!}:Gg KF (AT KF) eqD':=by
 show"!4";unfold eqD' at e;show"!6"
 .show"!t";cases e;exact x6_
 .cases e
end
section
variable{pos p2:Pos}
def Bn(g g':gj_)(fa fb fc:i_):Ab->Option D:=λρ=>(eG_).bind λx=>(i1_).bind λy=>(g x y).bind λz=>match z with
 |.bl true=>(fc ρ).bind λu=>g' y u
 |.bl false=>some X!
 |_=>none
def a2t(ho:bE!)(hg:dw_)(fg:hZ_)(yp:x7!)(ha:Q!)(hb:cj_)(hc:x7_)
  (hm:h0!:=by with_unfolding_all rfl):DE X own h0_ x8!:=
 eB (b3d ho fg ha.ok hb.ok hc.ok hm) λZ G H Q ρ d er e k=>by
  obtain⟨x,e1,e⟩:=GN.mp e;obtain⟨y,e2,e⟩:=GN.mp e;obtain⟨z,e3,e⟩:=GN.mp e;refine x8_;have o8:=s1.trans gk_;cases z<;>first|cases e|skip
  rename_i bb;cases cR r3;refine x9!;cases bb with
  |true=>
   obtain⟨u,e4,e⟩:=GN.mp e;exact jS ⟨G3,ρ,u,er.grow o8,e4,λq G4 H4 s4 r4=>yp s4.sub ya! r4 e λv G5 H5 s5 r5=>k v G5 H5 ya_ r5⟩
  |false=>
   cases e;exact jT (k _ G3 H3 o8 Aj.bl)
def Pc(f:i_):Ab->Option D:=λρ=>(aj_).bind λd=>match d with|.int i=>some (.int (-i))|_=>none
def zN(h:Q!):DE X own (.UnaryOp .USub a pos) (Pc fa):=
 eB (b2w a3h h.ok) λZ G H Q ρ d er e k=>by
  obtain⟨x,e1,e⟩:=GN.mp e;cases x<;>first|cases e|skip
  refine eO_;cases aX r1;exact⟨_,rfl,k _ G1 H1 s1 Aj.int⟩
def Iu:D->Bool
 |.non=>true
 |.bl _=>true
 |.int _=>true
 |.str _=>true
 |_=>false
def a2i(h:Iu d=true)(r:gh!):Ks v=true:=by
 cases d<;>first
  |(cases h;done)
  |(cases dY r;rfl)
  |(cases cR r;rfl)
  |(cases aX r;rfl)
  |(cases bT r;rfl)
def c0i(h:Iu d=true)(h':Iu d'=true)(r:gh!)(r':Aj KF H d' v'):Wg v v'=eqD d d':=by
 cases d<;>first
  |(cases h;done)
  |skip
 all_goals (cases d'<;>first
  |(cases h';done)
  |skip)
 all_goals first
  |(cases dY r)
  |(cases cR r)
  |(cases aX r)
  |(cases bT r)
 all_goals first
  |(cases dY r')
  |(cases cR r')
  |(cases aX r')
  |(cases bT r')
 all_goals simp[Wg,eqD]
def a2k:∀{ds:b!} {vs:o!},ds.all Iu=true->Af KF H ds vs->vs.all Ks=true
 |[],vs,_,r=>by cases bY r;rfl
 |d::ds,vs,h,r=>by
  obtain⟨v,t,rfl,r1,r2⟩:=bE r;rw[NE,HQ]at h;rw[NE,HQ];exact⟨a2i h.1 r1,a2k h.2 r2⟩
def a2j(hx:Iu x=true)(rx:Aj KF H x v):∀{ds:b!} {vs:o!},ds.all Iu=true->Af KF H ds vs->CD v vs=ds.any λd=>eqD d x
 |[],vs,_,r=>by cases bY r;rfl
 |d::ds,vs,h,r=>by
  obtain⟨w,t,rfl,r1,r2⟩:=bE r;rw[NE,HQ]at h;have ih:=a2j hx rx h.2 r2;unfold CD at ih ⊢;rw[MO,MO,ih,c0i h.1 hx r1 rx]
def Yy:D->Option as_
 |.tup xs=>some xs
 |.lst xs=>some xs
 |_=>none
def Sr(neg:Bool):D->D->Option D:=λx y=>(Yy y).bind λds=>if Iu x&&ds.all Iu then some yd! else none
def c7y:Gg KF (DZ KF neg) (Sr neg):=by
 show"!4";show"!I"
 .rename_i h;rw[HQ]at h;cases e;have ag:∀{p:yz!} {vs:o!},(Ef KF H p vs\/Fg KF H p vs)->Af KF G ds vs->y=V.ref p->DZ KF neg x y H Q:=λ{p vs} q r ey=>by
   refine⟨p,vs,ey,q,a2i h.1 rx,a2k h.2 r,?_⟩;rw[a2j h.1 rx h.2 r];show"!p"
  cases dy<;>first|(cases e1;done)|skip
  .cases e1;obtain⟨p,vs,ey,q,r⟩:=bN ry;exact ag (.inr gq_) r ey
  .cases e1;obtain⟨p,vs,ey,q,r⟩:=bJ ry;exact ag (.inl nN_) r ey
 .cases e
structure Rw(X:Cx)(x:Str)(b7:gC_):Prop where
 ex:∃(ad:yz!) (σ:List ns_) (vs:List ye!),X.mg x=some jw_/\oa!=false/\(∀h:Heap,X.K.In h->h.DictOf (mixKind X.prog X.w) ad vs)/\KV σ vs/\
  (∀y,Ld σ dE_=none↔b7.lookup y=none)/\∀y d,b7.lookup y=some d->∃v,Ld σ dE_=some v/\∀H,Aj X.K H d v
def Xh(b7:gC_)(neg:Bool)(f:i_):Ab->Option D:=λρ=>(aj_).bind λd=>match d with|.str y=>some (.bl (if neg then !(oa_).isSome else(oa_).isSome))|_=>none
def Tn(b7:gC_)(f:i_):Ab->Option D:=λρ=>(aj_).bind λd=>match d with|.str y=>b7.lookup y|_=>none
def c0y(hd:Rw X x b7)(hg:D_)(ha:Q!)(fh:BP a)(au:x!:=by decide):DE X own (.Subscript cR! a pos) (Tn b7 fa):=by
 show"#M";refine eB (t:=λZ H Q=>tD X.K own fa Z H λv H1=>∃y u,v=.str y/\Ld σ dE_=some u/\Q u H1) yf! λZ G H Q ρ d er e k=>?_
 .refine b7n PySem.F.slot_dict_getitem.lookup fh (gV I hg j2 (cW yf_ ?_) au);rintro v s1 ⟨y,H1,I1,r1,z,u,hz,hu,q1⟩;subst hz;have dd:=yq _ I1.kIn;obtain⟨w',hw,ax⟩:=Lu.some_of (v:=u) (o:=valueAt vs ob_) (by rw[<-hu];exact yr.val ob_);have ty:s1.TypeIs jw_ "dict":=by
   obtain⟨o,es,ep,Y,h2,_⟩:=dd;exact⟨o,Y,h2.1⟩
  exact⟨ty,wpAny_getItem_of (knd:=yg!) (k:=oc!) yg_ dd.mapOf hw ⟨u,H1,I1.tok _,ax,q1⟩⟩
 .obtain⟨x,e1,e⟩:=GN.mp e;cases x<;>first|(cases e;done)|skip
  rename_i y;obtain⟨v,hv,hr⟩:=hs y d e;refine⟨G,ρ,_,er,e1,λw G1 H1 s1 r1=>?_⟩;cases bT r1;exact⟨y,v,rfl,hv,k _ G1 H1 s1 (hr G1)⟩
def Ok(P:yL!)(w:yK!)(KF:zr!)(mg:L!)(base:Heap)(k:Nat)(x:Str)(ps:D!)(g:aZ_):Prop:=
 ∃af fd,Em P w KF mg base Ng k af fd ps n6!/\Ec KF fd ps []/\mg x=some a0!/\W.keepIn KF a0!=true
def aO(F:yh!)(hr:bc!)(hg:D_)(ha:gn!)(ay:w4_)
  (hn:w4!:=by rfl)(au:x!:=by decide)(he:T!:=by rfl)(ar:ar!:=by rfl):
  DE X own az! i6!:=by
 show"![";exact c1a Y hr hg h3 h4 h2 ha hn ay au he ar
def Yi(P:yL!)(w:yK!)(KF:zr!)(mg:L!)(base:Heap)(k n:Nat)(b7:yi!):Prop:=
 ∀af g,b7 af=some g->∃fd ps,O!=n/\Em P w KF mg base Ng k af fd ps n6!/\Ec KF fd ps []/\W.keepIn KF a0!=true
def Mm(b7:yi!)(i:Nat)(fs:aC_):Ab->Option D:=λρ=>(fVar i ρ).bind λd=>match d with|.fn af=>(b7 af).bind λg=>(eH!).bind g|_=>none
def b6p(F:Yi X.prog X.w X.K X.mg X.base k n b7)(hr:bc!)(ha:gn!)(ay:w5_)
  (hj:j∉own:=by decide)(hN:vw!:=by rfl)(hv:cy!:=by first|exact Or.inl rfl|exact Or.inr d!|exact Or.inr at!)(au:x!:=by decide)(bz:cy_:=by decide)
  (he:T!:=by rfl)(ar:ar!:=by rfl):
  DE X own az! (Mm b7 j fs):=⟨by
 intro h1 s Z H Q I h;obtain⟨G,ρ,d,er,e1,kk⟩:=h;obtain⟨z,e2,e1⟩:=GN.mp e1;cases z<;>first|(cases e1;done)|skip
 rename_i af;obtain⟨g,e3,e1⟩:=GN.mp e1;obtain⟨ds,e4,e1⟩:=GN.mp e1;obtain⟨fd,ps,mf,F1,F2,F3⟩:=F af g e3;obtain⟨v,Y,h2⟩:=er.at_ j _ (join_some e2) hj;cases fH h2;refine LL (cW (jC hN hv au bz h1 s Z H (λu H'=>u=.ref af/\H'=H) I ⟨_,Y,rfl,rfl⟩) ?_);rintro u s1 ⟨y,H1,I1,r1,hy,hH⟩;subst hy hH;cases r1;refine W.callWith_K (h₀:=X.base) I1.ok.mod.kin F3 (cW (ha.ok pos h1 s1 Z H1 _ I1 ⟨G,ρ,ds,er,e4,λvs G2 H2 s2 r2=>(?_:(λvs H2=>Wy X.K ps.length g vs H2 Q E0) vs H2)⟩) λus s2 ⟨vs,H2,I2,r2,q2⟩=>tp!) he ar
 .exact⟨by rw[<-aH r2,ay ρ ds e4,mf],G2,ds,d,s2.sub,r2,e1,λv G3 H3 s3 r3=>kk v G3 H3 gk_ r3⟩
 .exact a3q (dvs:=[]) (ds:=[]) F1 hr F2 .nil vL I2 r2 (by rw[IB];exact q2)⟩
def CP(x:Str):It:=⟨yk_,λi H v H'=>H'=H/\∃c,x.cps[i]?=some c/\v=.str an!,yl!⟩
def Za(f:i_):Ab->Option as_:=λρ=>(aj_).bind λd=>match d with|.str x=>some yl_|_=>none
def b9w:Xn KF (CP x) yl_ G1:=by intro i G' H' s1 s2;refine⟨dA!,λhi=>by rw[GY,JE]at hi;exact NU hi.symm⟩;rw[IK]at hd;obtain⟨c,hc,rfl⟩:=GX.mp hd;rw[NC]at hc;refine yn_;obtain⟨e1,c',cb,e2⟩:=hy;subst e1;rw[hc]at cb;cases cb;subst e2;exact⟨G',jf!,Aj.str⟩
def a0c(hd:yo!)
  (W:∀A':Around,oe_=none->Walks P w A' it [it] [it] x.cps.size (SignAt x) St')(XW:∀(A:yA!) (i:Nat) (s:yM!) (Q:J_) (E:J_),St' i s.heap->Q b4_ s->wpAny v! A rW_ Q E s):
  Qm P w KF gD! (CP x) [it] it yo_ where
 mem:=by simp
 obj:=λi h st b hb=>by
  have e:b=it:=by simpa using hb
  subst e;exact hd i h st.2
 keep:=λi h h' st k=>⟨st.1,by
  have Wd:=W callerA rfl;exact Wd.frame i h h' st.2 λb hb o e=>k b hb o e⟩
 item:=by
  show"!3";show"!5";refine(W X.A a9_).item i s _ _ hg st.2 λv h' tk hv ac kk=>?_;obtain⟨cc,u,gn,rfl⟩:=hv;show"!_";exact⟨_,rfl,GP ⟨.str ⟨#[cc]⟩,H,I1,⟨u,rfl⟩,⟨rfl,cc,gn,rfl⟩,⟨hg,ac⟩,lH_⟩⟩
 done:=by
  show"!3";show"!5";have hi:i=eU!:=RX st.1 hg;subst hi;exact(W X.A a9_).done s _ _ st.2 λh' tk kk=>⟨rfl,I.turned lJ! f0 f1 f3 f4 f5⟩
 self:=λA i s Q E st h=>XW A i s Q E st.2 h
def c3t(hl:PE X a tl):PI X gD! a (λZ H R=>tl Z H λv H1=>∃x,v=.str x/\R (CP x) H1):=by
 intro h1 s Z H R I h;refine cW r2_ ?_;rintro v s1 ⟨u,H1,I1,r1,x,hx,q⟩;subst hx;obtain⟨t,rfl⟩:=r1;have TY:∀(ty:String) (i:Nat) (h:Heap),h.IsStrIter s1.heap.objs.size ty x t i->∃o,h.get? x_=some o/\∀v,o.data≠.cell v:=λty i h st=>by
  show"#$"
 have ag:∀(ob:Obj) (St':hR_),Qm X.prog X.w X.K gD! (CP x) [x_] s1.heap.objs.size yo_->St' 0 (s1.heap.push ob)->
   CL X h1 Z gD! R (.ref x_) {s1 with heap:=s1.heap.push ob}:=λob St' T st=>by
  refine⟨x_,[x_],_,_,H1,rfl,lJ_,T,⟨IF _,st⟩,bD_,q⟩;have e:b=x_:=by simpa using hb
  show"!k"
 cases ha:x.cps.all (·<128)with
 |false=>
  exact wpAny_pyIter_wide ha (ag _ _ (a0c yq_ (λA' hA=>Walks.strWide hA _ x t) λA i s Q E st h=>wpAny_pyIter_striter_wide st h) d5!)
 |true=>
  exact wpAny_pyIter_ascii ha (ag _ _ (a0c yq_ (λA' hA=>Walks.strAscii hA _ x t) λA i s Q E st h=>wpAny_pyIter_striter_ascii st h) d5!)
def c5z(h:Q!):DI X own gD! a (Za fa):=a2p (c3t h.ok) λZ G H R ρ ds er e k=>by
 obtain⟨d,e1,e2⟩:=GN.mp e;cases d with
 |str x=>
  cases e2;refine eO_;cases bT r1;exact⟨x,rfl,k _ G1 H1 s1 b9w⟩
 |_=>cases e2
def uU:∀{ys:D!} {us:j_},Aq ys! us->StrsAre us ys
 |[],_,.nil=>.nil
 |y::ys,_,.cons r t=>by
  obtain⟨k,rfl⟩:=r;exact .cons y k (uU t)
def AL(KF:zr!):V->List V->Hp->VK->Prop:=λx vs H Q=>∃(z:Str) (p:yz!) (ys:D!),x=.str z/\vs=iz!/\Ef KF H p ys!/\(ys_).sum+P!*iu!<=16777216/\Q yt! H
def b9g:FP X "str.join" (AL X.K):=by intro h1 s Z H x xs v us Q I rx r h;obtain⟨z,p,ys,rfl,rfl,hq,hz,q⟩:=h;obtain⟨t,rfl⟩:=rx;obtain⟨u,rfl,r1⟩:=mH r;cases r1;obtain⟨its,rv,pl,_⟩:=I.list hq;exact join_list pl.isList (by simpa using uU rv) hz λt' k=>⟨.str _,H,aT_,I_,q⟩
def Qt:List D->Option (List Str)
 |[]=>some []
 |.str x::r=>(Qt r).map (x::·)
 |_=>none
def a0m{KF:zr!}:∀{ds:b!} {vs:o!} {ys:D!},Af KF H ds vs->Qt ds=some ys->vs=ys.map V.str
 |[],vs,ys,r,e=>by cases bY r;cases e;rfl
 |d::ds,vs,ys,r,e=>by
  obtain⟨v,t,rfl,r1,r2⟩:=bE r;cases d<;>first|(cases e;done)|skip
  obtain⟨XX,e1,rfl⟩:=GX.mp e;cases bT r1;rw[a0m r2 e1];rfl
def Tk:D->D->Option D
 |.str z,.lst xs=>(Qt xs).bind λys=>if(ys_).sum+P!*iu!<=big then some yt! else none
 |_,_=>none
def Vt(fo fa:i_):Ab->Option D:=λρ=>(fo ρ).bind λx=>(eG_).bind λy=>Tk x y
def c0w(ho:DE X own o fo)(ha:Q!)
  (iu:attributeBase o "join" X.env cz_=eval o X.env:=by rfl)
  (iy:((og_).all cH!&&(cH_).all cI!
   &&decide oh!)=true:=by rfl)
  (iz:es!:=by rfl) (hs:jg!:=by rfl) (ja:gu!:=by rfl):
  DE X own (.Call (.Attribute o "join" bf) [a] [] ak) (Vt fo fa):=
 eB (a0z PySem.F.plainAttrs_str PySem.F.slot_str_join PySem.F.type_str_join b9g ho.ok (cO ha.ok fI hs) iu iy iz hs ja) λZ G H Q ρ d er e k=>by
  show"!>";obtain⟨y,e2,e⟩:=GN.mp e;unfold Tk at e;show"!6"
  .obtain⟨ys,e3,e⟩:=GN.mp e;show"!6"
   .show"!G";refine eO_;cases bT r1;refine⟨rfl,G1,ρ,_,cP!,e2,yv_⟩;obtain⟨p,vs,rfl,q,rr⟩:=bJ r2;have:=a0m rr e3;subst this;exact⟨_,p,ys,rfl,rfl,s2.sub.seq q,IL hl b_,k _ G2 H2 cP_ Aj.str⟩
   .cases e
  .cases e
end
section
def xU(g1:yw!)(g2:yw_)(g3:xs[n]?=some v)
  (k:∀h',h'.IsTupleIter jt tt cT_->Heap.SameBut jt s.heap h'->Q v {s with heap:=h'}):wpAny l_ A yx! Q E s:=by
 show"!<";show"!r";refine GM (NW eo ed d_ (GP ⟨v,rfl,GP (k _ ?_ dF!)⟩));exact⟨_,KL _ eo (MM (LM ed _)),(yC!).trans ec,by rw[LM ed];simp[rawInt]⟩
def sQ(hh:bn_)(g1:yw!)(g2:yw_)(g3:xs[n]?=none)
  (k:∀h' e,Heap.ExtBut jt s.heap h'->(∃o,h'.get? e=some o/\o.cls=.type "StopIteration")->E V! {s with heap:=h'}):wpAny l_ A yx! Q E s:=by
 show"!<";show"!r";refine GM (KH (GM (NW eo ed d_ ?_)));refine GM ?_;simp only[newExc,newTuple];refine GM (JX ?_ gE_);refine GM (m:=yD!) (wpAny_of_eq (a:=bZ_) yD_ ?_);refine JX ?_ gE_;simp only[raiseNew];refine GM yE_
 first|rw[yF!]|rw[hh]
 refine GM yF_;exact k _ _ yG! jz!
def bU(x:h.IsTupleIter aa tt n)(hs:Heap.ExtBut bb h h')(ne:aa≠bb):h'.IsTupleIter aa tt n:=let⟨ob,eo,r⟩:=x;⟨ob,hs _ _ ne eo,r⟩
def a3e{TI TO:yz!}{Q:J_}(D:jz_)
  (gz:jA!)(gI:jA_)(gO:jB!)
  (g1:jB_)(g2:jC!)(ig:gF!)(jc:gF_)(gx:yG_)(gy:yI!)
  (kk:∀h',IsZip h' z TI TO (rawInt g_)->IsPair h' TO x y->h'.IsTupleIter i1 l1 (k1+1)->h'.IsTupleIter i2 l2 (k2+1)->IsPair h' s.heap.objs.size x y->
   jC_->Q ba! {s with heap:=h'}):
  wpAny l_ A yI_ yJ! E s:=by
 show"!y";show"!E";refine GM yN!
 replace mh:IsZip Y z TI TO .ellipsis:=mh
 refine GM ?_;simp only[QC,QG,LQ,OG];refine GM jE!;refine GM yP!;have uc:IsPair h2 TO p q:=bj.extBut _ _ D.TOi1 yP_;refine GM yR_;refine GM yQ_
 replace vx:IsPair h3 TO x q:=vx
 refine GM (NO K_);refine GM jE!;refine GM (xU yS! yT! gy λh4 XY jq=>GP ?_);have UA:IsPair h4 TO x q:=jq.extBut _ _ D.TOi2 vx;refine GM (LJ UA rfl ?_);refine GM (RD UA λh5 vy mi=>?_)
 replace vy:IsPair h5 TO x y:=vy
 refine GM (NO (GP K_));refine GM (LJ vy rfl ?_);refine GM (RI ?_);have sz:om!=g_:=by rw[mi.1,jq.1,cg.1,bj.1,bo.1]
 have UB:IsZip h5 z TI TO .ellipsis:=mi.extBut _ _ D.TOz.symm (jq.extBut _ _ D.i2z.symm yT_);have XZ:∀c ob,c≠z->c≠TO->c≠i1->c≠i2->s.heap.get? c=some ob->h5.get? c=some ob:=λc ob c1 c2 c3 c4 e=>mi.extBut _ _ c2 (jq.extBut _ _ c4 (cg.extBut _ _ c2 (bj.extBut _ _ c3 (bo.extBut _ _ c1 e))));have X0:h5.IsTupleIter i1 l1 (k1+1):=bU (bU (bU TZ cg.extBut D.TOi1.symm) jq.extBut D.i12) mi.extBut D.TOi1.symm;have X1:h5.IsTupleIter i2 l2 (k2+1):=bU XY mi.extBut D.TOi2.symm;have UC:z<om!:=HP UB;refine GM ?_;unfold Builtin.SmallTypes.ownedTupleHandOut;have X2:IsZip (h5.push {cls:=.type "tuple",data:=.seq #[x,y]}) z TI TO .ellipsis:=GQ _ UB;refine GM (KP X2 d_ λh7 yw UD=>?_)
 replace yw:IsZip h7 z TI TO yU!:=yw
 refine KP yw d_ λh8 vz UE=>?_
 replace vz:IsZip h8 z TI TO yU!:=vz
 have up:∀c ob,c≠z->h5.get? c=some ob->h8.get? c=some ob:=λc ob c1 e=>UE.extBut _ _ c1 (UD.extBut _ _ c1 (GQ _ e));have UF:IsPair h8 h5.objs.size x y:=UE.extBut _ _ (LY UC) (UD.extBut _ _ (LY UC) jE_);rw[sz]at vz UF;refine GP om_;rw[sz];obtain⟨X3,X4,r1⟩:=X0;obtain⟨X5,X6,r2⟩:=X1;exact kk h8 vz (up _ _ D.TOz vy) ⟨X3,up _ _ D.i1z X4,r1⟩ ⟨X5,up _ _ D.i2z X6,r2⟩ UF λc ob c1 c2 c3 c4 e=>up c ob c1 (XZ c ob c1 c2 c3 c4 e)
def a8k{TI TO:yz!}(hh:bn_)(D:jz_)
  (gz:jA!)(gI:jA_)(gO:jB!)
  (g1:jB_)(g2:jC!)(ig:gF!)(jc:gF_)(ge:yV_)
  (kk:∀h' e,jC_->(∃ob,h'.get? e=some ob/\ob.cls=.type "StopIteration")->E V! {s with heap:=h'}):
  wpAny l_ A yI_ Q E s:=by
 show"!y";show"!E";refine GM yN!
 replace mh:IsZip Y z TI TO .ellipsis:=mh
 refine GM ?_;simp only[QC,QG,LQ,OG];refine GM jE!;cases gx:xs[k1]? with
 |none=>
  refine GM (sQ hh yO! yO_ gx λh2 e bj he=>?_);obtain⟨oe,o9,ue⟩:=he;have UG:IsZip h2 z TI TO .ellipsis:=bj _ _ D.i1z.symm mh;have yx:e≠z:=λx=>by subst x;rw[UG]at o9;cases o9;simp at ue
  refine KP UG d_ λh3 _ cg=>kk h3 e (λc ob c1 _ c3 _ x=>cg.extBut _ _ c1 (bj _ _ c3 yW_)) ⟨oe,cg.extBut _ _ yx o9,ue⟩
 |some x=>
  have gy:ys[k2]?=none:=by
   obtain h|h:=ge
   .rw[gx]at h;cases h
   .exact h
  refine GM yP!;have uc:IsPair h2 TO p q:=bj.extBut _ _ D.TOi1 yP_;refine GM yR_;refine GM yQ_;refine GM (NO K_);refine GM jE!;refine GM (sQ hh yS! yT! gy λh4 e jq he=>?_);obtain⟨oe,o9,ue⟩:=he;have UH:IsZip h4 z TI TO .ellipsis:=jq _ _ D.i2z.symm yT_;have yx:e≠z:=λx=>by subst x;rw[UH]at o9;cases o9;simp at ue
  refine KP UH d_ λh5 _ mi=>kk h5 e (λc ob c1 c2 c3 c4 x=>mi.extBut _ _ c1 (jq _ _ c4 (cg.extBut _ _ c2 (bj.extBut _ _ c3 yW_)))) ⟨oe,mi.extBut _ _ yx o9,ue⟩
end
section
def a3v{TI TO:yz!}(D:jz_)
  (gz:jA!)(gI:jA_)(gO:jB!)
  (g1:jB_)(g2:jC!)(ig:gF!)(jc:gF_)(gx:yG_)(gy:yI!)
  (kk:∀h',IsZip h' z TI TO (rawInt g_)->IsPair h' TO x y->h'.IsTupleIter i1 l1 (k1+1)->h'.IsTupleIter i2 l2 (k2+1)->IsPair h' s.heap.objs.size x y->
   jC_->Q (some ba!) {s with heap:=h'}):
  wpAny l_ A yX_ Q E s:=by
 have gT:s.TypeIs jD! "zip":=yY!;unfold pyNext;exact GM (ML (JA (name:=eV!) gT QZ (IT QZ gT yY_
  (a3e D gz gI gO g1 g2 ig jc gx gy λh' a1 a2 a3 a4 a5 a6=>GP (kk h' a1 a2 a3 a4 a5 a6)) yZ!)))
def uD{TI TO:yz!}(hh:bn_)(D:jz_)
  (gz:jA!)(gI:jA_)(gO:jB!)
  (g1:jB_)(g2:jC!)(ig:gF!)(jc:gF_)(ge:yV_)
  (kk:∀h',jC_->Q none {s with heap:=h'}):wpAny l_ A yX_ Q E s:=by
 have gT:s.TypeIs jD! "zip":=yY!;unfold pyNext;refine GM (ML (JA (name:=eV!) gT QZ (IT QZ gT yY_
  (a8k hh D gz gI gO g1 g2 ig jc ge λh' e hk he=>?_) yZ!)))
 obtain⟨ob,ho,hc⟩:=he;exact GM (wpAny_isInstance (T:=on_) (b:=true) ⟨ob,ho,hc⟩ isSubtype_stop (GP (kk _ hk)))
abbrev BZ(h:Heap)(l1:yz!):Heap:=h.push {cls:=.type "tuple_iterator",data:=.fields #[.ref l1,.int 0 0]}
abbrev BY(h:Heap)(l1 l2:yz!):Heap:=(BZ h l1).push {cls:=.type "tuple_iterator",data:=.fields #[.ref l2,.int 0 0]}
abbrev BX(h:Heap)(l1 l2:yz!):Heap:=(y0!).push {cls:=.type "tuple",data:=.seq #[.ref bA_,.ref (BZ h l1).objs.size]}
abbrev BW(h:Heap)(l1 l2:yz!):Heap:=(y0_).push {cls:=.type "tuple",data:=.seq #[.none,.none]}
abbrev Zk(h:Heap)(l1 l2:yz!):Heap:=(BW h l1 l2).push {cls:=.type "zip",data:=.fields #[.none,.bool false,.bool false,.ref (y0!).objs.size,.ref (y0_).objs.size]}
def a4s(l1 l2:yz!)(xs ys:bi_):
  Meets (Builtin.«zip.__new__» ⟨[.type "zip",.ref l1,.ref l2],[]⟩) (λ_ R s=>s.heap.IsTuple l1 xs/\s.heap.IsTuple l2 ys/\R (.ok (.ret (.ref (oo!).objs.size))) {s with heap:=Zk s.heap l1 l2}):=
 .of_wp λprog w A R s h=>by
  obtain⟨hp,g,d,tk,os⟩:=s;obtain⟨ig,jc,h⟩:=h;have UI:=sub_zip;have X7:Heap.IsTuple (Shared.heap y1!) l1 xs:=ig;have X8:Heap.IsTuple (Shared.heap ⟨hp.push {cls:=.type "tuple_iterator",data:=.fields #[.ref l1,.int 0 0]},g,d,tk,os⟩) l2 ys:=let⟨ob,eo,r⟩:=jc;⟨ob,GQ _ eo,r⟩
  wp_walk using wpAny_pyIter_tuple X7,wpAny_pyIter_tuple X8
  exact⟨_,rfl,h⟩
def b7b(ig:gF!)(jc:gF_)
  (kk:∀h',IsZip h' (g_+4) (g_+2) (g_+3) .none->IsPair h' (g_+2) ba! (.ref Y!)->
   IsPair h' (g_+3) .none .none->h'.IsTupleIter s.heap.objs.size l1 0->h'.IsTupleIter Y! l2 0->(∀c ob,s.heap.get? c=some ob->h'.get? c=some ob)->Q (.ref (g_+4)) {s with heap:=h'}):
  wpAny l_ A (call oo_ [.ref l1,.ref l2]) Q E s:=by
 refine callType_new F.called_zip b_ (F.typeCall_zip_2 _ _) (F.newCall_zip_2 _ _) (λobj=>F.args_object_init_3 obj _ _) F.entry_zip_new (a4s l1 l2 xs ys) ⟨ig,jc,?_⟩;have z1:(y2!).objs.size=g_+1:=MN ..;have z2:(y2_).objs.size=g_+2:=by rw[MN,z1]
 have z3:(y3!).objs.size=g_+3:=by rw[MN,z2]
 have z4:(oo!).objs.size=g_+4:=by rw[MN,z3]
 have y5:(gG_).get? (oo!).objs.size=some _:=HM _ rfl;have y4:(gG_).get? (y3!).objs.size=some _:=GQ _ jE_;have y3:(gG_).get? (y2_).objs.size=some _:=GQ _ op!;have y2:(gG_).get? (y2!).objs.size=some _:=GQ _ (GQ _ op!);have y1:(gG_).get? g_=some _:=GQ _ (GQ _ (GQ _ op!));show _/\_;rw[z2,z3,z4]at y5;rw[z1,z2]at y3;rw[z3]at y4;rw[z1]at y2;rw[z4];exact⟨⟨_,y5,rfl⟩,kk _ y5 y3 y4 ⟨_,y1,rfl,rfl⟩ ⟨_,y2,rfl,rfl⟩ λc ob x=>GQ _ (GQ _ (GQ _ (GQ _ (GQ _ x))))⟩
end
def CO(KF:zr!)(a b:yz!):It:=
 ⟨λi H=>∃xs ys x y,Fg KF H a xs/\Fg KF H b ys/\xs[i]?=some x/\ys[i]?=some y,
   λi H v H'=>∃T,v=.ref T/\H T=none/\∀xs ys,Fg KF H a xs->Fg KF H b ys->∃x y,xs[i]?=some x/\ys[i]?=some y/\H'=upd H T y4!,
   λi H=>∃xs ys,Fg KF H a xs/\Fg KF H b ys/\(g!<=i\/P!<=i)⟩
def b5u{P:jF!}:∀x∈([]:List α),P x:=λ_ h=>by cases h
def gG{P:jF!}(h:P a)(k:∀x∈l,P x):∀x∈a::l,P x:=λx hx=>by
 obtain rfl|hx:=GT.mp hx
 .exact h
 .exact k x hx
def wB{ch:aS!}(I:a_)(hf:∀c∈ch,Eu X h1 H c)(kp:∀c o,c∉ch->s.heap.get? c=some o->h'.get? c=some o):Inv X h1 Z H {s with heap:=h',toks:=s.toks}:=by
 refine I.step (g':=s.gens) (d':=s.drawn) (ch:=ch) jF_ y4_ y5! le! y5_ le_ lf! y6! lg! jG! I.bare
 .obtain⟨_,f2,_,f4,f5,f6⟩:=hf c hc;exact⟨f4,f2,f5,f6⟩
 .show"#C";exact y6_
 .refine(y7!).stay y7_ y8! λ_ _ e'=>e';have hn:=(hf d hm).1;obtain rfl|hd:=hd
  .rw[hn]at e;cases e
  .rw[hn]at hd;cases hd
def ne4(h:c∉y9!):c≠a1/\c≠a2/\c≠a3/\c≠a4:=by simpa using h
def c7k{P:jF!}(h:∀x∈[a1,b,a2,a3,a4],P x):∀x∈y9!,P x:=λx hx=>h x (by simp only[GT]at hx ⊢;exact hx.imp_right .inr)
def a8r{TI TO:yz!}(D:ZipApart z TI TO i1 i2 a b):
  Qm P w KF eW! (CO KF a b) za! z (λi h=>IsZip h z TI TO .none/\IsPair h TI (.ref i1) (.ref i2)/\(∃p q,IsPair h TO p q)/\h.IsTupleIter i1 a i/\h.IsTupleIter i2 b i) where
 mem:=by simp
 obj:=λi h st=>by
  obtain⟨s1,s2,⟨p,q,s3⟩,⟨o4,s4,c4,d4⟩,⟨o5,s5,c5,d5⟩⟩:=st;exact gG ⟨_,s1,oq!⟩ (gG ⟨_,s2,oq!⟩ (gG ⟨_,s3,oq!⟩ (gG ⟨o4,s4,λv y=>by rw[d4]at y;cases y⟩ (gG ⟨o5,s5,λv y=>by rw[d5]at y;cases y⟩ b5u))))
 keep:=λi h h' st k=>by
  obtain⟨s1,s2,⟨p,q,s3⟩,⟨o4,s4,r4⟩,⟨o5,s5,r5⟩⟩:=st;exact⟨k z d_ _ s1,k TI d_ _ s2,⟨p,q,k TO d_ _ s3⟩,⟨o4,k i1 d_ _ s4,r4⟩,⟨o5,k i2 d_ _ s5,r5⟩⟩
 item:=by
  intro X hP hw hK hc i h1 s Z H E I hf st hg;subst hP hw hK;obtain⟨xs,ys,x,y,qa,qb,hx,hy⟩:=hg;obtain⟨s1,s2,⟨p,q,s3⟩,s4,s5⟩:=st;obtain⟨ia,ra,ta,za⟩:=I.tuple qa;obtain⟨ib,rb,tb,zb⟩:=I.tuple qb;obtain⟨u,hu,ru⟩:=ra.get hx;obtain⟨v,hv,rv⟩:=rb.get hy;refine a3v D s1 s2 s3 s4 s5 ta tb (x:=u) (y:=v) rY_ im_ λh' a1 a2 a3 a4 a5 a6=>?_;refine⟨_,rfl,wpAny_letOwnedTupleGo_zip (s:=lH!) a1 λh2 b1 bj=>?_⟩;have rg:Heap.SameBut z h' h2:=bj;have neT:∀c o,s.heap.get? c=some o->g_≠c:=λc o e=>LY cw!;have I1:Inv X h1 Z H {s with heap:=h2,toks:=s.toks}:=wB I (ch:=zc_) (c7k hf) λc o hc e=>by
   obtain⟨n1,n2,n3,n4⟩:=ne4 hc;exact rg.extBut _ _ n1 (a6 c o n1 n2 n3 n4 e)
  have uf:H g_=none:=I.hok.fresh u!;have eT:h2.get? g_=some {cls:=.type "tuple",data:=.seq #[u,v]}:=rg.extBut _ _ (neT z _ s1) a5;have I2:Inv X h1 Z (upd H s.heap.objs.size y4!) {s with heap:=h2,toks:=s.toks}:=by
   have ne:∀c o,H c=some o->c≠g_:=λc o e=>cD e uf;have X9:∀p∈X.pn++h1,p.1≠g_:=λp hp=>IH (HP (lE!).1);refine Inv.step (s:={s with heap:=h2,toks:=s.toks}) (g':=s.gens) (d':=s.drawn) (t':=s.toks) (h':=h2) (ch:=[g_]) I1 jF_ zd_ ze! ze_ zf!
    (zg!) zg_ zh! nf! jG! I1.bare
   .have e:c=g_:=by simpa using hc
    subst e;exact⟨.inr I.sz,LY I.lt,λx c h=>(λz=>by obtain⟨v,o,ho,_⟩:=I.cell x c h;rw[z]at ho;exact absurd hv! db_),X9⟩
   .rw[nf_];exact n
   .by_cases hb:c=g_
    .show"!s";exact⟨by show 2<=sizeLine;rw[JI];decide,[u,v],.cons ru (.cons rv .nil),⟨_,eT,rfl,_,rfl⟩⟩
    .rw[dc!]at e;exact(zh_).stay ng! zi! λd xs q=>by rw[or_];exact q
  refine⟨dp_,_,I2,rfl,⟨_,rfl,uf,λxs' XX ug uh=>⟨x,y,?_,?_,rfl⟩⟩,⟨b1,rg.extBut _ _ D.TIz (a6 TI _ D.TIz D.TITO D.TIi1 D.TIi2 s2),⟨u,v,rg.extBut _ _ D.TOz a2⟩,bU a3 rg.extBut D.i1z,bU a4 rg.extBut D.i2z⟩,os!⟩
  .rw[I.tuple_inj ug qa];exact hx
  .rw[I.tuple_inj uh qb];exact hy
  .have cb:∀c∈za!,∃o,s.heap.get? c=some o:=by
    obtain⟨o4,t4,_⟩:=s4;obtain⟨o5,t5,_⟩:=s5;exact gG ⟨_,s1⟩ (gG ⟨_,s2⟩ (gG ⟨_,s3⟩ (gG ⟨_,t4⟩ (gG ⟨_,t5⟩ b5u))))
   obtain⟨o,ho⟩:=cb c hc;rw[aW (IA (neT c o ho))];exact(hf c hc).1
 done:=by
  intro X hP hw hK hc i h1 s Z H E I hf st hg;subst hP hw hK;obtain⟨xs,ys,qa,qb,YA⟩:=hg;obtain⟨s1,s2,⟨p,q,s3⟩,s4,s5⟩:=st;obtain⟨ia,ra,ta,za⟩:=I.tuple qa;obtain⟨ib,rb,tb,zb⟩:=I.tuple qb;have l1:=ra.length;have l2:=rb.length;refine uD a9_ D s1 s2 s3 s4 s5 ta tb (by
   obtain h|h:=YA
   .left;simp;omega
   .right;simp;omega) λh2 a6=>p!
  exact wB I (ch:=zc_) (c7k hf) λc o hc e=>by
   obtain⟨n1,n2,n3,n4⟩:=ne4 hc;exact a6 c o n1 n2 n3 n4 e
 self:=λA i s Q E st h=>wpAny_pyIter_zip st.1 h
section
variable{pos p2 p tp:Pos}
def b8l(hg:Gl X "zip")(hm:zj_)(hv:zl!)(ha:PA X aJ! ta)(hs:zk_:=by rfl)(ar:zl_:=by rfl):
  PI X eW! zm! (λZ H R=>ta Z H λvs H1=>∃x y xs ys,vs=[dj_,.ref y]/\Fg X.K H1 x xs/\Fg X.K H1 y ys/\R (CO X.K x y) H1):=by
 intro h1 s Z H R I h;refine Call_ (iD I hg hm hv (JP lM_ hs ar));rintro us s1 ⟨vs,H1,I1,r1,q1⟩;obtain⟨x,y,xs,ys,rfl,qx,qy,q⟩:=q1;obtain⟨u,u',rfl,ru,az⟩:=uW r1;cases ru;cases az;obtain⟨ia,ra,UJ,za⟩:=I1.tuple qx;obtain⟨ib,rb,UK,zb⟩:=I1.tuple qy;have lx:x<x_:=by obtain⟨ob,eo,_⟩:=UJ;exact HP eo
 have ly:y<x_:=by obtain⟨ob,eo,_⟩:=UK;exact HP eo
 refine b7b UJ UK λh' a1 a2 a3 a4 a5 a6=>?_;refine wpAny_pyIter_zip a1 ?_;have I2:Inv X h1 Z H1 {s1 with heap:=h',toks:=s1.toks}:=I1.kept (t':=s1.toks) a6;have D:ZipApart (x_+4) (x_+2) (x_+3) s1.heap.objs.size (x_+1) x y:=by
  constructor<;>(intro z;have z':@Eq Nat _ _:=z;have l1:@LT.lt Nat _ x _:=lx;have l2:@LT.lt Nat _ y _:=ly;omega)
 refine⟨_,_,_,CO X.K x y,H1,rfl,I2,a8r D,⟨a1,a2,⟨_,_,a3⟩,a4,a5⟩,os!,q⟩;have jr:x_<=c:=by
  simp only[GT,JM,NX]at hc;obtain rfl|rfl|rfl|rfl|rfl:=hc<;>omega
 exact I1.fpOk jr (I1.hok.fresh jr)
def Iw:List D->List D->List D
 |x::xs,y::ys=>.tup [x,y]::Iw xs ys
 |_,_=>[]
def Yz(fa fb:i_):Ab->Option as_:=λρ=>(eG_).bind λx=>(i1_).bind λy=>match x,y with|.tup xs,.tup ys=>some jI!|_,_=>none
def zZ:∀(xs ys:b!) (n:Nat) (d:D),jI![n]?=some d->∃x y,xs[n]?=some x/\ys[n]?=some y/\d=.tup [x,y]
 |[],_,n,d,h=>by simp[Iw]at h
 |_::_,[],n,d,h=>by simp[Iw]at h
 |x::xs,y::ys,0,d,h=>by
  simp[Iw]at h;exact⟨x,y,rfl,rfl,h.symm⟩
 |x::xs,y::ys,n+1,d,h=>by
  obtain⟨u,v,Y,h2,h3⟩:=zZ xs ys n d (by simpa[Iw]using h);exact⟨u,v,kR_,by simpa using h2,h3⟩
def zY:∀(xs ys:b!),g!<=(jI!).length\/P!<=(jI!).length
 |[],ys=>.inl bv!
 |_::_,[]=>.inr bv!
 |x::xs,y::ys=>by
  obtain h|h:=zY xs ys
  .left;simp[Iw];exact h
  .right;simp[Iw];exact h
def b9v(qa:Fg KF G1 x vs)(qb:Fg KF G1 y ws)(ra:xt!)(rb:Af KF G1 es ws):Xn KF (CO KF x y) (Iw ds es) G1:=by
 intro n G' H' s1 s2;have ug:Fg KF H' x vs:=bS s2 (bS s1 qa);have uh:Fg KF H' y ws:=bS s2 (bS s1 qb);refine⟨dA!,λhn=>⟨vs,ws,ug,uh,?_⟩⟩
 .obtain⟨u,v,Y,h2,rfl⟩:=zZ ds es n d hd;obtain⟨v1,g1,r1⟩:=gJ ra Y;obtain⟨v2,g2,r2⟩:=gJ rb h2;refine⟨⟨vs,ws,v1,v2,ug,uh,g1,g2⟩,λx' gr hy=>?_⟩;obtain⟨T,rfl,hT,hh⟩:=hy;obtain⟨x1,y1,e1,e2,rfl⟩:=hh vs ws ug uh;rw[g1]at e1;rw[g2]at e2;cases e1;cases e2;exact⟨_,Br.laid s2 hT,fK (s2.free hT) (Af.cons (r1.mono s1) (Af.cons (r2.mono s1) Af.nil))⟩
 .rw[hn,<-aH ra,<-aH rb];exact zY ds es
def c5y(hg:Gl X "zip")(hm:zj_)(hv:zl!)(ha:Q!)(hb:cj_)(hs:zk_:=by rfl)
  (bj:starEach [b] X.env=hW!::starEach [] X.env:=by rfl)(ar:zl_:=by rfl):DI X own eW! zm! (Yz fa fb):=
 a2p (b8l hg hm hv (cO ha.ok (cO hb.ok fI bj) hs) hs ar) λZ G H R ρ ds er e k=>by
  obtain⟨x,e1,e⟩:=GN.mp e;obtain⟨y,e2,e⟩:=GN.mp e;cases x with
  |tup xs=>
   cases y with
   |tup ys=>
    cases e;refine zn!;obtain⟨p,vs,rfl,q,rr⟩:=bN gk!;obtain⟨p',ws,rfl,q',b6⟩:=bN r2;exact⟨p,p',vs,ws,rfl,bS s2.sub q,bS s2.sub q',k _ G2 H2 cP_ (b9v q q' rr b6)⟩
   |_=>cases e
  |_=>cases e
end
def Cm:D->D->Option D:=Co Rm λi j=>.int (i*j)
def kB:Gg KF lS_ Cm:=c4i
nonrec def modD:D->D->Option D:=Co xd_ λi j=>.int (i%j)
def cN:Gg KF lU! modD:=c4j
def Av:D->D->Option D:=Co xe_ λi j=>.int (i / j)
def gE:Gg KF lT_ Av:=b9b
def Fb:D->D->Option D:=Co xf! λi j=>.int lV!
def c4e:Gg KF lV_ Fb:=c4h
nonrec def ltD:D->D->Option D:=Bu λi j=>.bl lX_
def sL:Gg KF lY! ltD:=c7x
def Hq:D->D->Option D:=Bu λi j=>.bl lZ!
def a6w:Gg KF lZ_ Hq:=c7z
def Kc:D->D->Option D:=Bu λi j=>.bl l0_
def c2c:Gg KF l0! Kc:=c8a
section
variable{pos p2:Pos}
def kA:Fw X lY_ zn_:=c7t.or a9i
def Ih:D->D->Option D
 |.int i,.int j=>some (.bl hZ!)
 |.str x,.str y=>some (.bl (Pg x y))
 |_,_=>none
def kC:Gg KF zn_ Ih:=by
 show"!4";unfold Ih at e;show"!6"
 .show"!^";exact .inl zo!
 .cases bT rx;cases bT ry;cases e;exact .inr zo!
 .cases e
def Jc:D->D->Option D
 |.int i,.int j=>some (.bl (!(i==j)))
 |.str x,.str y=>some (.bl (!(x==y)))
 |_,_=>none
def vP:Gg KF FD Jc:=by
 show"!4";unfold Jc at e;show"!6"
 .show"!^";refine p!;rw[a7y];show"!p"
 .cases bT rx;cases bT ry;cases e;refine p!;rw[a7x];show"!p"
 .cases e
def gL(hm:∃t,X.mg x=some da!)(hg:D_)(hd:x!:=by decide):DE X own cz! (fC N!):=by obtain⟨t,ht⟩:=hm;exact c0x hg ht hd
end
def cF{X:Cx}{scope sc:Scope}(h:X.env.scope=sc)(hd:∀y∈bO!,y.2=.free->(sc.names.lookup y.1=some .cell\/sc.names.lookup y.1=some .free)):
  ∀y∈bO!,y.2=.free->v0!:=λy hy hf=>by
 unfold Env.kindOf;rw[h];exact hd y hy hf
section
variable{pos p2:Pos}
def b6j(ho:bE!)(hg:dw_)(fg:hZ_)(yp:x7!)(ha:Q!)(hb:cj_)(hc:x7_)
  (hm:h0!:=by with_unfolding_all rfl):DT X own h0_ (fT x8!):=
 tQ (b2k ho fg ha.ok hb.ok hc.ok hm) λZ G H Q ρ d er e k=>by
  have e:=jK e;obtain⟨x,e1,e⟩:=GN.mp e;obtain⟨y,e2,e⟩:=GN.mp e;obtain⟨z,e3,e⟩:=GN.mp e;refine x8_;have o8:=s1.trans gk_;cases z with
  |bl bb=>
   cases cR r3;refine x9!;cases bb with
   |true=>
    obtain⟨u,e4,e⟩:=GN.mp e;refine jS ⟨G3,ρ,u,er.grow o8,e4,λq G4 H4 s4 r4=>yp s4.sub ya! r4 e λv G5 H5 s5 r5=>?_⟩;cases cR r5;exact⟨d,rfl,k G5 H5 ya_⟩
   |false=>
    cases e;exact jT ⟨false,rfl,k G3 H3 o8⟩
  |_=>cases e
def b0o(hd:Rw X x b7)(hg:D_)(ha:Q!)(hm:behindInMarks .NotIn cR!=false:=by rfl)(au:x!:=by decide):DT X own (.Compare a [.NotIn] eM! pos) (fT (Xh b7 true fa)):=by
 show"#M";refine tQ (t:=λZ H Q=>tD X.K own fa Z H λv H1=>∃y,v=.str y/\Q (!(Ld σ dE_).isSome) H1) yf! λZ G H Q ρ d er e k=>?_
 .refine QW (cW yf_ λv s1 ⟨y,H1,I1,r1,z,hz,q1⟩=>gV I1 hg j2 ?_ au) hm;subst hz;refine wpAny_notIn_of (knd:=yg!) (k:=oc!) yg_ TW (yq _ I1.kIn).mapOf ?_;rw[<-(yr.val ob_).isSome_eq];exact IV ⟨H1,I1.tok _,q1⟩
 .have e:=jK e;obtain⟨x,e1,e⟩:=GN.mp e;cases x with
  |str y=>
   cases e;refine eO_;cases bT r1;refine⟨y,rfl,?_⟩;have hb:(Ld σ dE_).isSome=(oa_).isSome:=by
    cases ht:b7.lookup y with
    |none=>rw[(hn y).mpr ht];rfl
    |some d=>obtain⟨v,hv,_⟩:=hs y d ht;rw[hv];rfl
   rw[hb];exact k G1 H1 s1
  |_=>cases e
end
def dJ:bootBuiltins "len"=some sI!:=by decide+kernel
def c6p:bootBuiltins "abs"=some sF_:=by decide+kernel
def c6n:bootBuiltins "ord"=some sG_:=by decide+kernel
def zV:bootBuiltins "all"=some xr!:=by decide+kernel
def bO:bootBuiltins "isinstance"=some eL_:=by decide+kernel
def b7d:bootBuiltins "int"=some bs_:=by decide+kernel
def a8f:bootBuiltins "bool"=some bt!:=by decide+kernel
def a5r:bootBuiltins "str"=some bt_:=by decide+kernel
def oC:bootBuiltins "tuple"=some a1!:=by decide+kernel
def a8e:bootBuiltins "list"=some er!:=by decide+kernel
def c6m:bootBuiltins "zip"=some oo_:=by decide+kernel
def Fh(KF:zr!)(mg:L!)(x:Str)(st:Stmt)(ps:D!):Prop:=∃af fd,Wb KF x x st af fd/\Ec KF fd ps []/\mg x=some a0!
def Bk(N:D!)(n:Nat)(q:bg!)(ds:b!):Option D:=if e_=n then(match q gx_ with|some (.rt d)=>some d|some (.nx _)=>some .non|none=>none)else none
def dX{st:Stmt}(h:ot_)(S:cK!)
  (hb:∀{af:yz!} {ah:yB!} {A:yA!} {outer:ai!} {s:yM!} {H:Hp} {E:XK},Ah k jK!->N.Nodup->Wc (ou!).nox [] [] be! q):
  Ok P w KF mg base S_ x ps (Bk N ps.length q):=by
 obtain⟨af,fd,F,B,m⟩:=h;refine⟨af,fd,c6a F S (λah A outer s H E hr=>hb hr S.nd) (λds d hl e=>?_),B,m,F.kp⟩;unfold Bk at e;rw[HC hl]at e;show"!6"
 .cases e;left;assumption
 .cases e;right;exact⟨_,zq!,rfl⟩
 .cases e
def BC:Const->Option D
 |.int i=>some N!
 |.str i=>some iY!
 |.bool i=>some (.bl i)
 |.none=>some .non
 |_=>none
mutual
noncomputable def Sq:Nat->Expr->Option D
 |0,_=>none
 |n+1,e=>match e with
  |.Constant c _ _=>BC c
  |.Tuple es _ _=>(ov!).bind λds=>if e_<=1000 then some cO! else none
  |.List es _=>(ov!).bind λds=>if e_<=1000 then some cg_ else none
  |_=>none
noncomputable def So:Nat->List Expr->Option as_
 |0,_=>none
 |n+1,[]=>some []
 |n+1,e::es=>(Sq n e).bind λd=>(ov!).bind λds=>some cO_
end
section
variable{X:Cx}{own:List Nat}
def b4t(h:Sq n e=some d):starEach am! X.env=dn!::starEach es X.env:=by
 cases n with
 |zero=>unfold Sq at h;cases h
 |succ n=>
  cases e<;>first|rfl|(simp[Sq]at h;done)
mutual
theorem iH:∀{n:Nat} {e:Expr} {d:D},Sq n e=some d->DE X own e (fC d)
 |0,e,d,h=>by unfold Sq at h;cases h
 |n+1,e,d,h=>by
  unfold Sq at h;split at h
  .unfold BC at h;split at h
   .cases h;exact aB
   .cases h;exact bX
   .cases h;exact iN
   .cases h;exact dC
   .cases h
  .obtain⟨ds,e1,e2⟩:=GN.mp h;split at e2
   .rename_i hl;cases e2;refine eB (dI (a5l e1)).ok λZ G H Q ρ d er e k=>?_;show"#N"
   .cases e2
  .obtain⟨ds,e1,e2⟩:=GN.mp h;split at e2
   .rename_i hl;cases e2;refine eB (zO (a5l e1)).ok λZ G H Q ρ d er e k=>?_;show"#N"
   .cases e2
  .cases h
theorem a5l:∀{n:Nat} {es:cx_} {ds:b!},So n es=some ds->DA X own es (λ_=>some ds)
 |0,e,d,h=>by unfold So at h;cases h
 |n+1,[],d,h=>by
  unfold So at h;cases h;exact aK
 |n+1,e::es,d,h=>by
  unfold So at h;obtain⟨d1,e1,h⟩:=GN.mp h;obtain⟨ds,e2,h⟩:=GN.mp h;cases h;exact b6r (aC (iH e1) (a5l e2) (b4t e1)).ok λZ G H Q ρ d er e k=>⟨G,ρ,_,er,e,k⟩
end
end
section
def bB{st:Stmt}{kV:yB!}(X:eW_)(G:eX!)
  (a:zs_)(l:zt!)
  (c:zt_)(k:f8!)
  (b:zu!):Fh KF mg x st ps:=
 ⟨f,_,jK_,ow!,ow_⟩
def Zg(KF:zr!)(mg:L!)(x:Str)(st:Stmt)(ps:D!):Prop:=∃af fd,Wb KF x x st af fd/\(∀us:List Value,W_=O!->bindArgs fd cF!=pure cE_)/\mg x=some a0!
def c0t{st:Stmt}{kV:yB!}(X:eW_)(G:eX!)
  (a:zs_)(l:zt!)
  (c:zt_)(k:f8!)
  (b:zu!):Zg KF mg x st ps:=
 ⟨f,_,jK_,b _ _ _ _ _ _,ow_⟩
def nU(X:eW_)(G:eX!)(a:W.nsIn KF mainGlobals x=some (some (.int i tk))):∃tk,mg x=some (.int i tk):=⟨tk,ow_⟩
def dD(X:eW_)(G:eX!)(e:W.nsIn KF mainGlobals x=some gI!):mg x=some E!:=W.mg_of X G e
def cX(X:eW_)(G:eX!)(e:W.nsIn KF mainGlobals x=some none):mg x=none:=W.mg_none_of X G e
def wC:∀(ns:v_),Af KF H ox! cJ_
 |[]=>Af.nil
 |n::r=>Af.cons Aj.int (wC r)
abbrev Sv:=Str×Tok×Addr
def Yp(w:yK!)(r:Sv):DictEntry:=⟨PyData.keyHash w.params r.1,.str r.1 r.2.1,.ref r.2.2⟩
def Su(KF:zr!):List Sv->List bS!->Prop
 |[],[]=>True
 |r::rs,t::ts=>r.1=t.1/\(∀H,Aj KF H t.2 (V.ref r.2.2))/\Su KF rs ts
 |_,_=>False
abbrev Tf(rows:gI_):List ns_:=rows.map λr=>(Sum.inr r.1,V.ref r.2.2)
abbrev Rb(rows:gI_):List ye!:=rows.map λr=>(Sum.inr r.1,Value.ref r.2.2)
def rY:∀(rows:gI_),Pairs a8! zu_ oy!
 |[]=>.nil
 |r::rs=>.cons (kI P w r.1 r.2.1) rfl (rY rs)
def oO:∀{rows:gI_} {b7:gC_},Su KF rows b7->(Ld oz_ dE_=none↔b7.lookup y=none)/\∀d,b7.lookup y=some d->∃v,Ld oz_ dE_=some v/\∀H,Aj KF H d v
 |[],[],_=>⟨⟨bF!,bF!⟩,λd e=>by cases e⟩
 |[],t::ts,h=>h.elim
 |r::rs,[],h=>h.elim
 |r::rs,(x,d0)::ts,h=>by
  obtain⟨Y,h2,h3⟩:=h;have ih:=oO (y:=y) h3;have gf:r.1=x:=Y;unfold Ld at ih ⊢;simp only[HD,LG,II];by_cases e:y=x
  .subst e;have:decide zv_=true:=by simp[gf]
   simp only[this,KB];refine⟨⟨zw!,zw!⟩,λd z=>?_⟩;cases z;exact⟨_,rfl,h2⟩
  .have e1:decide zv_=false:=by
    rw[gf];exact HB λz=>e (zw_).symm
   have e2:(y==x)=false:=by simp[e]
   simp only[e1,e2];exact ih
def a7h:∀(rows:gI_),KV oz_ oy!
 |[]=>.nil
 |r::rs=>.cons aI_ (a7h rs)
def b5q{ad:yz!}(hw:X.w=w)(hK:X.K=KF)(j2:X.mg=mg)(hm:mg x=some jw_)(hs:oa!=false)(hl:KF.lookup ad=some {cls:=.type "dict",data:=.dict (zu_).toArray ep})
  (nd:gJ_)(ht:Su KF rows b7):Rw X x b7:=by
 subst hw hK j2;refine⟨ad,Tf rows,Rb rows,hm,hs,λh hK=>⟨_,_,_,hK _ _ hl,oC_,rfl,?_,?_,?_⟩,a7h rows,λy=>(oO ht).1,λy d=>(oO ht).2 d⟩
 .intro e he;have jd:e∈rows.map (Yp X.w):=by simpa using he
  obtain⟨r,hr,rfl⟩:=HI.mp jd;exact⟨Sum.inr r.1,kI _ _ r.1 r.2.1,rfl⟩
 .simpa using rY (w:=X.w) (P:=X.prog) rows
 .have e:(oy!).map c_=(oC!).map (Sum.inr:Str->L2.Key):=by simp[Rb]
  rw[e];exact List.Pairwise.map _ (λa b l9 z=>l9 zw_) nd
def a0p:∀(fs:aS!),Af KF H zx! zx_
 |[]=>Af.nil
 |n::r=>Af.cons (by unfold Aj;rfl) (a0p r)
def uV:∀(fs:aS!),Aq zx_ zy_
 |[]=>.nil
 |n::r=>.cons rfl (uV r)
def gH{fs:aS!}(l:KF.lookup a=some ⟨cn_,od,.seq (zy_).toArray n,sl⟩)(hz:a8_<=1000)(H:Hp):Aj KF H (.tup zx!) gh_:=
 Aj.tup (.inr ⟨_,_,n,l,rfl,rfl,by simpa using fB hz,by simpa using uV fs⟩) (a0p fs)
end
abbrev MK:=Option (Sum L2.Key zA_)
abbrev AX:Int:=0xFCA86420
section
variable (P w)in
def Ik(h:Heap):MK->Value->Prop
 |none,v=>v=.none
 |some (.inl k),v=>Oj k v=true
 |some (.inr ks),v=>∃a,v=.ref a/\IsTupleKey a8! h ks a
variable (P w)in
nonrec def mkHash:MK->Int
 |none=>AX
 |some (.inl k)=>BD w k
 |some (.inr ks)=>tupleKeyHash a8! ks
def a1m(hx:Ik P w h x v)(hy:Ik P w h y v):x=y:=by
 obtain _|x|x:=x<;>obtain _|y|y:=y
 .rfl
 .cases zB!;obtain⟨i,t,_,e⟩|⟨i,t,_,e⟩:=bH hy<;>exact nomatch e
 .cases zB!;obtain⟨a,e,_⟩:=hy;exact nomatch e
 .cases gL!;obtain⟨i,t,_,e⟩|⟨i,t,_,e⟩:=bH hx<;>exact nomatch e
 .rw[(a8!).inj v x y hx hy]
 .obtain⟨a,rfl,_⟩:=hy;obtain⟨i,t,_,e⟩|⟨i,t,_,e⟩:=bH hx<;>exact nomatch e
 .cases gL!;obtain⟨a,e,_⟩:=hx;exact nomatch e
 .obtain⟨a,rfl,_⟩:=hx;obtain⟨i,t,_,e⟩|⟨i,t,_,e⟩:=bH hy<;>exact nomatch e
 .obtain⟨a,rfl,hx⟩:=hx;obtain⟨b,e,hy⟩:=hy;cases e;rw[hx.inj hy]
def jA(x:IsTupleKey a8! h ks a):∃its,h.IsTuple a its:=by obtain⟨o,its,n,Y,h2,h3,_⟩:=x;exact⟨its,o,Y,h2,n,h3⟩
def b4f(hu:ao!)(hx:oD!)(hy:Ik P w s.heap y v)(h:Q (decide d8!) s):wpAny v! A (eqBool u v) Q E s:=by
 obtain _|x|x:=x<;>obtain _|y|y:=y
 .cases gL_;cases gL!;rw[cY!]at h;exact SeqAt.EqAt.same _ _ _ _ _ h
 .cases gL_;rw[eY!]at h;obtain⟨i,t,rfl,rfl⟩|⟨i,t,rfl,rfl⟩:=bH hy
  .exact SeqAt.EqAt.none_int i t _ _ _ _ h
  .exact SeqAt.EqAt.none_str i t _ _ _ _ h
 .cases gL_;rw[eY!]at h;obtain⟨a,rfl,q⟩:=hy;obtain⟨its,q⟩:=jA q;exact SeqAt.EqAt.none_tuple q hu _ _ _ _ h
 .cases gL!;rw[eY!]at h;obtain⟨i,t,rfl,rfl⟩|⟨i,t,rfl,rfl⟩:=bH hx
  .exact SeqAt.EqAt.int_none i t _ _ _ _ h
  .exact SeqAt.EqAt.str_none i t _ _ _ _ h
 .refine(a8!).eqBool hx hy ?_;by_cases e:x=y
  .subst e;rw[cY!]at h ⊢;exact h
  .rw[HB ct_]at h;rw[HB e];exact h
 .rw[eY!]at h;obtain⟨a,rfl,q⟩:=hy;obtain⟨its,q⟩:=jA q;obtain⟨i,t,rfl,rfl⟩|⟨i,t,rfl,rfl⟩:=bH hx
  .exact SeqAt.EqAt.int_tuple i t q hu _ _ _ _ h
  .exact SeqAt.EqAt.str_tuple i t q hu _ _ _ _ h
 .cases gL!;rw[eY!]at h;show"#1";obtain⟨its,q⟩:=jA q;exact SeqAt.EqAt.tuple_none q hu _ _ _ _ h
 .rw[eY!]at h;obtain⟨a,rfl,q⟩:=hx;obtain⟨its,q⟩:=jA q;obtain⟨i,t,rfl,rfl⟩|⟨i,t,rfl,rfl⟩:=bH hy
  .exact SeqAt.EqAt.tuple_int i t q hu _ _ _ _ h
  .exact SeqAt.EqAt.tuple_str i t q hu _ _ _ _ h
 .show"#1";obtain⟨b,rfl,q2⟩:=hy;refine wpAny_eqBool_tuple hu q q2 ?_;by_cases e:x=y
  .subst e;rw[cY!]at h ⊢;exact h
  .rw[HB ct_]at h;rw[HB e];exact h
def a1l(hx:oD!)(h:Q true s):wpAny v! A (eqIsQuiet 8 u) Q E s:=by
 obtain _|x|x:=x
 .cases gL_;rw[eqIsQuiet_byValue _ rfl];exact GP h
 .rw[eqIsQuiet_byValue _ ((a8!).byValue x u hx)];exact GP h
 .show"#1";exact wpAny_eqIsQuiet_tuple q h
def qY(hu:ao!)(hx:oD!)(h:∀tk,Q (mkHash P w x) {s with toks:=tk}):wpAny v! A (pyHash u) Q E s:=by
 obtain _|x|x:=x
 .cases gL_;unfold pyHash;have hv:[bZ_].any Value.onHeap=false:=rfl;refine GM ?_;rw[cRoomFor,HA (by rw[hv];exact HV)];refine GP ?_;have hT:s.TypeIs .none "NoneType":=rfl;refine GM zC!;rw[HA (show¬(some (Value.builtin "NoneType.__hash__")==some Value.none)=true by rw[beq_builtin_none];exact HV)];refine GM zC!;show wpAny _ _ (callSpecialIfBoundUnlessNone? Value.none (Str.ofString "__hash__") _>>=_) _ _ _;refine GM (wpAny_callSpecialIfBoundUnlessNone?_slot hT NJ (IT NJ hT PySem.F.entry_NoneType_hash ?_ (PySem.F.args_NoneType_hash_1 _)));refine wpAny_ret_mkInt ?_;exact GP (h _)
 .exact(a8!).pyHash hx (h _)
 .show"#1";exact wpAny_pyHash_tuple hu q (h _)
end
def Kk(ks:gM!)(k:MK):Option Nat:=ks.findIdx? λx=>decide (x=k)
def Fy(ks:gM!)(k:MK)(i:Nat):Bool:=decide (ks[i]?=some k)
def nL(h:zD_):ks[j]?=some k/\∀i,i<j->ks[i]?≠some k:=by obtain⟨Y,h2,h3⟩:=MD.mp h;refine⟨by rw[HU Y];exact congrArg some (JF h2),λi hi e=>?_⟩;have:=h3 i hi;obtain⟨q1,q2⟩:=HG.mp e;rw[q2]at this;simp at this
def a1t(h:Kk ks k=none)(i:Nat):ks[i]?≠some k:=λe=>by
 have:=PH.mp h k (MJ e);simp at this
def a5g(ks:gM!)(k:MK):(List.range jN_).find? cY_=Kk ks k:=by
 cases h:Kk ks k with
 |none=>
  rw[QY];intro i hi z;exact a1t h i (JF z)
 |some j=>
  obtain⟨Y,h2⟩:=nL h;rw[List.find?_range_eq_some];refine⟨by unfold Fy;exact HF Y,NP.mpr (gt_).1,zE!⟩;unfold Fy;rw[HB (h2 i hi)];rfl
section
variable (P w)in
structure Lw(h:Heap)(es:iJ_)(ks:gM!):Prop where
 len:es.size=jN_
 at_:∀(i:Nat) (e:DictEntry) (k:MK),es[i]?=some e->ks[i]?=some k->Ik P w h k e.key/\e.hash=mkHash P w k
 nd:gM_
def Lw.get(x:jO_){i:Nat}(q:zE_):∃k,ks[i]?=some k/\Ik P w h k e.key/\e.hash=mkHash P w k:=by
 have hl:i<jN_:=by rw[<-x.len];exact(JV.mp q).1
 exact⟨ks[i],HU hl,x.at_ i e _ q (HU hl)⟩
def Lw.one(x:jO_)(Y:Fy ks k i=true)(h2:Fy ks k j=true):i=j:=by have e1:=JF Y;have e2:=JF h2;exact(List.getElem?_inj (HG.mp e1).1 x.nd).mp ug!
abbrev plc(es:iJ_)(h:Int):List Nat:=placesWithHash es.size (λi=>es[i]?.map (·.hash)) h
def a2l{es:iJ_}{ks:gM!}(x:jO_)(k:MK):(jQ!).find? cY_=Kk ks k:=by
 unfold plc placesWithHash;rw[List.find?_filter,<-a5g,x.len];congr 1;funext i;cases hp:Fy ks k i with
 |false=>simp
 |true=>
  have e1:=JF hp;have hl:i<es.size:=by rw[x.len];exact(HG.mp e1).1
  obtain⟨k',q1,q2,q3⟩:=x.get (IN hl);rw[e1]at q1;cases q1;simp[IN hl,q3]
def b2q(hi:i∈plc es h):i<es.size:=by have:=(JG.mp hi).1;simpa using this
def c3s:(plc es h).Nodup:=List.nodup_range.sublist zF!
def a3g(hu:ao!)(x:zF_)(hk:dG!)
  (ho:zG!)(hd:zG_)(h:Q gN! s):wpAny v! A zH! Q E s:=by
 show"!h";generalize plc es cZ!=L at hf hl ⊢;rw[<-hf]at h;unfold dictWalkPlain;refine GM (wpAny_forIn_list _ (λrest b s'=>s'=s/\b=eY_/\rest.find? cY_=L.find? cY_/\∀i∈rest,i<es.size) _ ?_ ?_ _ _ ⟨rfl,rfl,rfl,hl⟩)
 .rintro i rest b s' ⟨rfl,rfl,Y,h2⟩;have ai:=h2 i GR;have he:es[i]?=some es[i]:=IN ai;obtain⟨k',q1,q2,q3⟩:=x.get he;have no:k'≠k->rest.find? cY_=L.find? cY_:=λhne=>by
   rw[<-Y,LG];have:Fy ks k i=false:=by unfold Fy;rw[q1];exact HB zH_
   rw[this]
  show"#.";rw[he];show"#=";split
  .refine GM oH!;rw[L_];by_cases mj:k'=k
   .subst mj;rw[cY!];have hi:Fy ks k' i=true:=by unfold Fy;exact HF q1
    have:L.find? (Fy ks k')=some i:=by rw[<-Y,LG,hi]
    rw[this]at h;exact GM (KH jQ_)
   .rw[HB mj];exact GM (KH (GP ⟨rfl,rfl,no mj,rs⟩))
  .rename_i hh;exact GP ⟨rfl,rfl,no zK!,rs⟩
 .rintro b s' ⟨rfl,rfl,Y,_⟩;rw[<-Y]at h;exact GP h
end
section
def a0d(hk:dG!)(hl:∀v∈L,∃k',Ik P w s.heap k' v)(h:Q false s):wpAny v! A (tableMayTell u L) Q E s:=by
 unfold tableMayTell;split
 .exact GP h
 .refine GM (a1l hk ?_);rw[L_];refine GM (wpAny_forIn_list _ (λrest r s'=>s'=s/\r=eY_/\∀v∈rest,v∈L) _ ?_ ?_ _ _ ⟨rfl,rfl,λ_ z=>z⟩)
  .rintro v rest r s' ⟨rfl,rfl,hr⟩;obtain⟨k',q⟩:=hl v (hr v GR);refine GM (a1l q ?_);rw[L_];exact GP ⟨rfl,rfl,λy hy=>hr y cL!⟩
  .rintro r s' ⟨rfl,rfl,_⟩;exact GP h
def b7i(q1:zL!)(e:k'=k):Fy ks k i=true:=by unfold Fy;rw[<-e];exact HF q1
def a8o{rest:l!}(hc:(al=none/\(i::rest).find? cY_=Kk ks k)\/∃j,al=some j/\Kk ks k=some j/\Fy ks k j=true/\j∉i::rest)(q1:zL!)(hne:¬k'=k):
  zM!\/∃j,al=some j/\Kk ks k=some j/\Fy ks k j=true/\j∉rest:=by
 obtain⟨e,Y⟩|⟨j,e,Y,h4,h5⟩:=hc
 .refine .inl mU!;rw[<-Y,LG];have:Fy ks k i=false:=by unfold Fy;rw[q1];exact HB zH_
  rw[this]
 .exact .inr ⟨j,e,Y,h4,λz=>h5 eP_⟩
def pG(q:Ik P w h k v):v.isStr z=decide (k=some e0!):=by
 by_cases e:k=some e0!
 .subst e;rw[cY!];obtain⟨i,t,e,_⟩|⟨i,t,e,rfl⟩:=bH q
  .cases e
  .cases e;simp[Value.isStr]
 .rw[HB e];cases v<;>first|rfl|skip
  rename_i y t;simp only[Value.isStr,IQ,ne_eq];rintro rfl;exact e (a1m q (pE y t))
def b5t(x:jO_)(z:Str):(es.findIdx? λe=>e.key.isStr z)=Kk ks (some e0!):=by
 cases hk:Kk ks (some e0!)with
 |none=>
  rw[Array.findIdx?_eq_none_iff];intro e he;obtain⟨i,hi⟩:=Array.mem_iff_getElem?.mp he;obtain⟨k',q1,q2,_⟩:=x.get hi;rw[pG q2];exact HB λ(e:k'=_)=>a1t hk i zN!
 |some j=>
  obtain⟨Y,h2⟩:=nL hk;have hj:j<es.size:=by rw[x.len];exact(gt_).1
  rw[Array.findIdx?_eq_some_iff_getElem];refine⟨hj,?_,zE!⟩
  .obtain⟨k',q1,q2,_⟩:=x.get (IN hj);rw[pG q2];rw[Y]at q1;cases q1;exact HF rfl
  .obtain⟨k',q1,q2,_⟩:=x.get (IN (Nat.lt_trans hi hj));rw[pG q2,HB (λ(e:k'=_)=>h2 i hi zN!)];simp
def c7l(h:∃T:Prop,(T->g)/\T):g:=let⟨_,f,k⟩:=h;f k
def nW(hu:ao!)(x:zF_)(hk:dG!)
  (ho:zG!)(hd:zG_)(h:Q gN! s):wpAny v! A (dictFind d u cZ!) Q E s:=by
 have hst:∀v∈(jQ!).filterMap (λi=>es[i]?.map jR!),∃k',Ik P w s.heap k' v:=λv hv=>by
  obtain⟨i,_,e⟩:=MX.mp hv;obtain⟨e',e1,rfl⟩:=GX.mp e;obtain⟨k',_,q,_⟩:=x.get e1;exact⟨k',q⟩
 have YB:¬(es.any λe=>e.key==u&&e.hash != mkHash P w k)=true:=λz=>by
  obtain⟨i,hi,z⟩:=Array.any_eq_true.mp z;rw[HQ,JC,bne_iff_ne]at z;obtain⟨k',_,q,q3⟩:=x.get (IN hi);rw[z.1]at q;exact z.2 (by rw[q3,a1m q hk])
 show"!h";have rh:(jQ!).Nodup:=c3s;have ar:wpAny v! A zH! Q E s:=a3g hu x hk ho hd h;unfold dictFind;refine IR (GM (LV ho hd ?_));refine c7l ?_;apply Exists.intro;apply And.intro
 .intro tl;have ye:(∃a,u=.ref a)\/(∃z t,u=.str z t/\k=some e0!)\/(u=.none\/∃i t,u=.int i t):=by
   clear tl;obtain _|k|k:=k
   .exact .inr (.inr ll!)
   .obtain⟨i,t,rfl,rfl⟩|⟨i,t,rfl,rfl⟩:=bH hk
    .exact .inr (.inr (.inr ⟨i,t,rfl⟩))
    .exact .inr (.inl ⟨i,t,rfl,rfl⟩)
   .obtain⟨a,rfl,_⟩:=hk;exact .inl ⟨a,rfl⟩
  obtain⟨a,ea⟩|⟨z,t,ea,UL⟩|ea|⟨i,t,ea⟩:=ye
  all_goals rw[ea]
  all_goals dsimp only
  rotate_left
  refine wpAny_ite_split (λgq=>?_) λ_=>?_
  .clear tl;unfold foundByValue;rw[b5t x z,<-UL];cases hj:Kk ks k with
   |none=>rw[hj]at h;exact GP h
   |some j=>
    obtain⟨Y,_⟩:=nL hj;have ai:j<es.size:=by rw[x.len];exact(gt_).1
    obtain⟨k',q1,q2,_⟩:=x.get (IN ai);rw[Y]at q1;cases q1;show"#=";rw[IN ai,<-ea];refine GM oH!;rw[L_,cY!];rw[hj]at h;exact GM (KH eZ_)
  all_goals rw[<-ea]
  all_goals refine wpAny_ite_split (λ_=>ar) λ_=>?_
  rotate_right
  rw[HA YB]
  all_goals refine wpAny_ite_split (λ_=>GM K_) λ_=>GM (a0d hk hst ?_)
  all_goals rw[L_]
  all_goals exact tl
 refine GM (wpAny_forIn_list _ (λrest b s'=>s'=s/\∃al,b=(none,al)/\(∀i∈rest,i<es.size)/\rest.Nodup/\
  (zM!\/∃j,al=some j/\Kk ks k=some j/\Fy ks k j=true/\j∉rest)) _ ?_ ?_ _ _ ⟨rfl,none,rfl,hl,rh,.inl ⟨rfl,hf⟩⟩)
 rotate_left
 .rintro b s' ⟨rfl,al,rfl,_,_,hc⟩;obtain⟨rfl,Y⟩|⟨j,rfl,Y,_⟩:=hc
  .rw[<-Y]at h;exact GP h
  .rw[Y]at h;exact GP h
 .rintro i rest b s' ⟨rfl,al,rfl,h2,h3,hc⟩;have ai:=h2 i GR;have he:es[i]?=some es[i]:=IN ai;obtain⟨k',q1,q2,q3⟩:=x.get he;obtain⟨n1,n2⟩:=HR.mp h3;show"#.";have stay:=λhne=>a8o hc q1 hne;rw[he];show"#=";split
  .refine GM oH!;rw[L_];by_cases mj:k'=k
   rotate_left
   .rw[HB mj];simp only[HX,IU,Bool.false_and];exact GM (KH (GP ⟨rfl,al,rfl,rs,n2,stay mj⟩))
   .have hi:=b7i q1 mj;rw[HF mj];obtain⟨rfl,Y⟩|⟨j,e,Y,h4,h5⟩:=hc
    .have hL:=Y;rw[LG,hi]at hL;simp only[JN,Option.isSome_none,HX,IU];refine GM eV_;split
     .rw[<-hL]at h;exact GP eZ_
     .exact GP ⟨rfl,aA_,rfl,rs,n2,.inr ⟨i,rfl,hL.symm,hi,n1⟩⟩
    .exact absurd (x.one hi h4) λz=>h5 (z▸GR)
  .rename_i hh;exact GP ⟨rfl,al,rfl,rs,n2,stay zK!⟩
end
def Lz(h:Heap)(a:yz!)(es:co_)(ep:Nat):Prop:=∃o,h.get? a=some o/\hl_/\o.data=.dict es.toArray ep
def Lz.typeIs{s:yM!}(D:gN_):s.TypeIs E! "dict":=let⟨o,ho,hc,_⟩:=D;⟨o,ho,hc.1⟩
def Xe(es:co_)(j:Option Nat)(h:Int)(u v:yB!):List DictEntry:=match j with
 |some j=>es.modify j λe=>{e with val:=v}
 |none=>es++[⟨h,u,v⟩]
def Xd(j:Option Nat)(ep:Nat):Nat:=match j with
 |some _=>ep
 |none=>ep+1
section
variable{es:List DictEntry}
def c8t(hu:ao!)(D:gN_)(x:jS_)(hk:dG!)(h:∀tk,Q ((gN!).bind λj=>es[j]?.map (·.val)) {s with toks:=tk}):
  wpAny v! A zQ_ Q E s:=by
 obtain⟨o,ho,_,hd⟩:=D;unfold dictGet;refine IR oJ!;have h:=h tk;cases hj:Kk ks k with
 |none=>rw[hj]at h;exact GP h
 |some j=>
  rw[hj]at h;refine GM (LV (s:=dG_) ho hd K_);rw[MC];exact h
def rJ{h:Heap}(ho:h.get? a=some o)(hc:hl_)(hd:o.data=.dict es.toArray ep)(he:f es.toArray=a7.toArray):
  Lz (h.update a (Obj.mapDict f)) a a7 ep/\Lz (h.update a (Obj.mapDictKeys f)) a a7 bU_:=
 ⟨⟨_,KL _ ho (Obj.isFreed_of_dict (Obj.data_mapDict hd _)),hc.mapDict _,by rw[Obj.data_mapDict hd,he]⟩,⟨_,KL _ ho (Obj.isFreed_of_dict (Obj.data_mapDictKeys hd _)),hc.mapDictKeys _,by rw[Obj.data_mapDictKeys hd,he]⟩⟩
def c8s(hu:ao!)(D:gN_)(x:jS_)(hk:dG!)(hl:oJ_)
  (h:∀h' tk,Lz h' a (Xe es gN! cZ! u v) (Xd gN! ep)->Heap.SameBut a s.heap h'->Q () {s with heap:=h',toks:=tk}):wpAny v! A zT! Q E s:=by
 obtain⟨o,ho,hc,hd⟩:=D;unfold dictSet;refine IR (GM (qY hu hk λtk=>?_));unfold dictSetHashed;refine IR (GM zR!);cases hj:Kk ks k with
 |none=>
  rw[hj]at h;exact GM (KH (RE (s:=dG_) ho hd (h _ tk (zT_).2 dF!) (hz:=jT!)))
 |some j=>
  rw[hj]at h;exact GM (KH (GM (wpAny_updateDict (s:=dG_) ho hd (wpAny_point (h _ tk (zT_).1 dF!)))))
def nY(hu:ao!)(D:gN_)(x:jS_)(hk:dG!)(hl:oJ_)
  (Y:∀j e tk,Kk ks k=some j->es[j]?=some e->Q e.val {s with toks:=tk})
  (h2:∀h' tk,Kk ks k=none->Lz h' a (es++[⟨mkHash P w k,u,v⟩]) bU_->Heap.SameBut a s.heap h'->Q v {s with heap:=h',toks:=tk}):wpAny v! A (dictSetDefault a u v) Q E s:=by
 obtain⟨o,ho,hc,hd⟩:=D;unfold dictSetDefault;refine IR oJ!;cases hj:Kk ks k with
 |none=>
  exact GM (KH (GM (RE (s:=dG_) ho hd (GP (h2 _ tk hj (rJ ho hc hd d_).2 dF!)) (hz:=jT!))))
 |some j=>
  have ai:j<aa_:=by
   have:=(HG.mp (nL hj).1).1;rw[<-x.len]at this;simpa using this
  refine GM zU_;rw[MC,HU ai];exact GM (KH (GP (Y j _ tk hj (HU ai))))
def c5v(hu:ao!)(D:gN_)(x:jS_)(hk:dG!)(hl:oJ_)(hj:zD_)(he:es[j]?=some e)
  (h:∀h' tk,Lz h' a zV_ bU_->Heap.SameBut a s.heap h'->Q hN_ {s with heap:=h',toks:=tk}):wpAny v! A zW_ Q E s:=by
 obtain⟨o,ho,hc,hd⟩:=D;unfold Builtin.Dict.takeOut;refine IR oJ!;rw[hj];refine GM zU_;rw[MC,he];have ai:j<aa_:=(HG.mp he).1;refine GM (RE (s:=dG_) ho hd (GP (h _ tk (rJ ho hc hd ?_).2 dF!)) (hz:=jT!) (hf:=?_))
 .rw[Array.eraseIdxIfInBounds,dif_pos zX_];simp
 .rw[Array.eraseIdxIfInBounds];split
  .rw[Array.size_eraseIdx];omega
  .omega
end
def Jp:List D->Option zA_
 |[]=>some []
 |.int i::r=>(Jp r).map (Sum.inl i::·)
 |.str x::r=>(Jp r).map (Sum.inr x::·)
 |_::_=>none
def De:D->Option MK
 |.non=>some none
 |.int i=>some (some (.inl kO!))
 |.str x=>some (some (.inl kP!))
 |.tup xs=>(Jp xs).map λks=>some (.inr ks)
 |_=>none
def vZ:∀{xs ys:b!} {ks:List L2.Key},Jp xs=some ks->Jp ys=some ks->xs=ys
 |[],ys,ks,h,h'=>by
  cases h;cases ys with
  |nil=>rfl
  |cons y r=>cases y<;>simp[Jp]at h'
 |x::xs,[],ks,h,h'=>by
  cases h';cases x<;>simp[Jp]at h
 |x::xs,y::ys,ks,h,h'=>by
  cases x<;>simp only[Jp]at h<;>first|(cases h;done)|skip
  all_goals (obtain⟨l,e1,rfl⟩:=GX.mp h)
  all_goals (cases y<;>simp only[Jp]at h'<;>first|(cases h';done)|skip)
  all_goals (obtain⟨l',e2,e3⟩:=GX.mp h')
  all_goals (injection e3 with e4 e5)
  all_goals first|(injection e4;done)|skip
  all_goals (injection e4 with e4;subst e4 e5;rw[vZ e1 e2])
def a7b(h:gO_)(h':a3!):x=y:=by
 cases x<;>simp only[De]at h<;>first|(cases h;done)|skip
 all_goals (cases y<;>simp only[De]at h'<;>first|(cases h';done)|skip)
 all_goals first
  |rfl
  |(cases h;cases h';rfl)
  |(cases h;cases h')
  |(cases h;obtain⟨l,e1,e2⟩:=GX.mp h';cases e2)
  |(cases h';obtain⟨l,e1,e2⟩:=GX.mp h;cases e2)
  |(obtain⟨l,e1,e2⟩:=GX.mp h;obtain⟨l',e3,e4⟩:=GX.mp h';cases e2;cases e4;rw[vZ e1 e3])
def Bz(KF:zr!)(G:Hp)(d:D)(u:yB!):Prop:=∃v,Aj KF G d v/\Be v u
def Bz.mono(e:jU!)(h:Bz KF G d u):Bz KF G' d u:=let⟨v,Y,h2⟩:=h;⟨v,Y.mono e,h2⟩
def a0o:∀{ds:b!} {vs:o!} {ks:List L2.Key},Af KF G ds vs->Jp ds=some ks->vs=ks.map kV
 |[],vs,ks,r,e=>by cases bY r;cases e;rfl
 |d::ds,vs,ks,r,e=>by
  obtain⟨v,t,rfl,r1,r2⟩:=bE r;cases d<;>simp only[Jp]at e<;>first|(cases e;done)|skip
  all_goals (obtain⟨l,e1,rfl⟩:=GX.mp e;rw[a0o r2 e1])
  .cases aX r1;rfl
  .cases bT r1;rfl
def oQ(I:a_)(sub:B!)(r:bx!)(e:a3_):Ik X.prog X.w s.heap k u:=by
 obtain⟨v,r,ru⟩:=r;cases d<;>simp only[De]at e<;>first|(cases e;done)|skip
 .cases e;cases dY r;exact ru
 .cases e;cases aX r;obtain⟨t,rfl⟩:=ru;exact wA _ _
 .cases e;cases bT r;obtain⟨t,rfl⟩:=ru;exact pE _ _
 .obtain⟨ks,e1,rfl⟩:=GX.mp e;obtain⟨a,vs,rfl,q,rr⟩:=bN r;cases ru;show"#:";rw[a0o rr e1]at rv;exact⟨a,rfl,o,aQ!,n,Y,h2,h3,by simpa using pF rv⟩
open Classical in
nonrec def kget:List ao_->D->Option D
 |[],_=>none
 |(k,v)::r,d=>if k=d then some v else kget r d
open Classical in
def Bq:List ao_->D->D->List ao_
 |[],d,v=>[(d,v)]
 |(k,x)::r,d,v=>if k=d then(k,v)::r else(k,x)::Bq r d v
open Classical in
def Gc:List ao_->D->List ao_
 |[],_=>[]
 |(k,x)::r,d=>if k=d then r else(k,x)::Gc r d
section
variable{P:yL!}{w:yK!}
variable (P w KF G)in
def BV(p:D×D)(e:DictEntry):Prop:=Bz KF G p.1 e.key/\Bz KF G p.2 e.val/\∃k,De p.1=some k/\e.hash=mkHash P w k
variable (P w KF G)in
def Gb(σ:p_)(es:co_):Prop:=Paired (BV P w KF G) σ es/\(dH!).Nodup
def Gb.mono(e:jU!)(h:e1_):Gb P w KF G' σ es:=
 ⟨Paired.mapP h.1 λp q z=>⟨z.1.mono e,z.2.1.mono e,z.2.2⟩,h.2⟩
def Gw(σ:p_):List MK:=σ.map λp=>(De p.1).getD none
def fW:∀{l:ad_} {m:List β} {i:Nat} {a:α},Paired F l m->l[i]?=some a->∃b,m[i]?=some b/\F a b
 |_,_,_,_,.nil,e=>by simp at e
 |_,_,0,_,.cons r _,e=>by simp at e;subst e;exact kR!
 |_,_,i+1,a,.cons _ t,e=>by
  obtain⟨b,Y,h2⟩:=fW (i:=i) (a:=a) t ct_;exact⟨b,kR_,h2⟩
def lK(h:zZ!)(h':Paired F l' m'):Paired F (l++l') (m++m'):=by
 induction h with
 |nil=>exact h'
 |cons r _ ih=>exact .cons r ih
def uE{l:ad_}{m:List β}(j:Nat)(h:zZ!):(∀a b,l[j]?=some a->m[j]?=some b->F a b->F (f a) (g b))->Paired F (l.modify j f) (m.modify j g):=by
 induction h generalizing j with
 |nil=>intro _;simpa using Paired.nil
 |cons r t ih=>
  intro h;cases j with
  |zero=>exact .cons (h _ _ rfl rfl r) t
  |succ j=>exact .cons r (ih j λa b e1 e2=>h a b (by simpa using e1) (by simpa using e2))
def mR:∀{l:ad_} {m:List β} (j:Nat),Paired F l m->Paired F (l.eraseIdx j) (m.eraseIdx j)
 |_,_,_,.nil=>.nil
 |_,_,0,.cons _ t=>t
 |_,_,j+1,.cons r t=>.cons r (mR j t)
def Gb.ents(I:a_)(sub:B!)(h:Gb X.prog X.w X.K G σ es):Lw X.prog X.w s.heap es.toArray e2!:=by
 obtain⟨Y,h2⟩:=h;refine⟨by simp[Gw,MY Y],λi e k he hk=>?_,?_⟩
 .rw[MC]at he;unfold Gw at hk;rw[IK]at hk;obtain⟨p,hp,rfl⟩:=GX.mp hk;obtain⟨e',jd,q1,_,k',q2,q3⟩:=fW Y hp;rw[he]at jd;cases jd;rw[q2];exact⟨oQ I sub q1 q2,q3⟩
 .have j9:∀{l:p_} {m:co_},Paired (BV X.prog X.w X.K G) l m->(cZ_).Nodup->(Gw l).Nodup:=by
   intro l m hp
   induction hp with
   |nil=>intro _;exact KZ
   |@cons p e l m q t ih=>
    intro nd;rw[HD,HR]at nd;show(_::Gw l).Nodup;rw[HR];refine⟨dH_,ih nd.2⟩;obtain⟨p',cf,e'⟩:=HI.mp z;obtain⟨_,_,k,hk,_⟩:=q;obtain⟨i,hi⟩:=OK.mp cf;obtain⟨_,_,_,_,k',d8,_⟩:=fW t hi;dsimp only at e';rw[hk,d8]at e';have:k'=k:=e';subst this;exact nd.1 (HI.mpr ⟨p',cf,a7b d8 hk⟩)
  exact j9 Y h2
def Gb.look(h:e1_)(hd:a3_):
  (Kk e2! k=none/\kget σ d=none/\(∀v,Bq σ d v=σ++[(d,v)])/\d∉σ.map c_)\/∃j x e,Kk e2! k=some j/\σ[j]?=some (d,x)/\es[j]?=some e/\kget σ d=some x/\Bz KF G x e.val/\(∀v,Bq σ d v=σ.modify j λp=>(p.1,v))/\Gc σ d=σ.eraseIdx j:=by
 obtain⟨Y,h2⟩:=h
 induction Y with
 |nil=>exact .inl ⟨rfl,rfl,bF!,R_⟩
 |@cons p e l m q t ih=>
  obtain⟨y,z⟩:=p;rw[HD,HR]at h2;obtain⟨_,q2,k',q3,_⟩:=q;have q3:De y=some k':=q3;have pb:Gw ((y,z)::l)=k'::Gw l:=by unfold Gw;rw[HD,q3];rfl
  by_cases hy:y=d
  .subst hy;rw[hd]at q3;cases q3;refine .inr ⟨0,z,e,?_,rfl,rfl,by simp[kget],q2,λv=>by simp[Bq,List.modify],by simp[Gc]⟩;rw[pb];unfold Kk;rw[List.findIdx?_cons];simp
  .have hne:k'≠k:=λe=>hy (a7b q3 (e▸hd));have d8:Kk (Gw ((y,z)::l)) k=(Kk (Gw l) k).map (·+1):=by
    rw[pb];unfold Kk;rw[List.findIdx?_cons];simp[hne]
   obtain⟨i1,i2,i3,i4⟩|⟨j,x,e',i1,i2,i3,i4,i5,i6,i7⟩:=ih h2.2
   .refine .inl ⟨zZ_,by simp[kget,hy,i2],λv=>by simp[Bq,hy,i3 v],?_⟩;rw[HD,GT,OV];exact⟨λe=>hy e.symm,i4⟩
   .exact .inr ⟨j+1,x,e',zZ_,by simpa using i2,by simpa using i3,by simp[kget,hy,i4],i5,λv=>by simp[Bq,hy,i6 v],by simp[Gc,hy,i7]⟩
def Gb.put(h:e1_)(hd:a3_)(ru:Bz KF G d u)(rv:Bz KF G x v):Gb P w KF G oL! (Xe es (Kk e2! k) cZ! u v):=by
 obtain⟨i1,i2,i3,i4⟩|⟨j,y,e',i1,i2,i3,i4,i5,i6,i7⟩:=h.look hd
 .rw[i1,i3];refine⟨lK h.1 (.cons ⟨ru,rv,k,hd,rfl⟩ .nil),?_⟩;rw[HZ,IM];refine⟨h.2,R_,λa ha b hb e=>?_⟩;simp at hb;subst hb e;exact i4 ha
 .rw[i1,i6];refine⟨uE j h.1 λa b _ _ q=>⟨q.1,rv,q.2.2⟩,?_⟩;have:∀(l:p_) (j:Nat),(l.modify j λp=>(p.1,x)).map c_=l.map c_:=by
   intro l
   induction l with
   |nil=>intro j;simp
   |cons p l ih=>
    intro j;cases j with
    |zero=>simp
    |succ j=>simp[ih j]
  rw[this];exact h.2
def Gb.del(h:e1_):Gb P w KF G (σ.eraseIdx j) zV_:=by refine⟨mR j h.1,?_⟩;exact h.2.sublist ((List.eraseIdx_sublist σ j).map _)
end
inductive Jy where
 |lst (xs:b!)|dct (σ:p_) (ep:Nat)|obj (C:yz!) (fs:gC_)
abbrev Mh:=Addr->Option Jy
nonrec def mup(M:Mh)(a:yz!)(c:Jy):Mh:=λb=>if b=a then some c else M b
def mup_same:mup M a c a=some c:=by unfold mup;rw[A!]
def mup_ne(h:b≠a):mup M a c b=M b:=by unfold mup;rw[HA h]
nonrec def dE(a:yz!)(es:co_)(ep:Nat):HO:=.ext λh=>Lz h a es ep/\db!=false/\aa_<=big
def Iv(KF:zr!)(G:Hp):List bS!->List cu!->Prop:=Paired λp q=>p.1=q.1/\Aj KF G p.2 q.2
section
variable(P:yL!)(w:yK!)(KF:zr!)
def Fu(G H:Hp)(a:yz!):Jy->Prop
 |.lst xs=>∃vs,H a=some ch_/\Af KF G xs vs
 |.dct σ ep=>∃es,H a=some jV_/\Gb P w KF G σ es
 |.obj C fs=>∃dx vs,H a=some z0_/\Iv KF G fs vs
structure MR(M:Mh)(G H:Hp):Prop where
 cell:∀a c,M a=some c->G a=none/\Fu P w KF G H a c
end
structure XM(M:Mh)(G H:Hp)(M':Mh)(G' H':Hp):Prop where
 g:Ar G G'
 sub:Ar G' H'
 new:∀b,G' b≠none->G b≠none\/H b=none
 keep:∀b o,H b=some o->M b=none->H' b=some o
 dom:∀b,M' b≠none->M b≠none\/H b=none
 cells:∀b,M b≠none->M' b≠none
def XM.refl(s:B!):XM M G H M G H:=⟨eF!,s,br_,λ_ _ h _=>h,br_,oL_⟩
def XM.free(x:jW!)(hM:M b=none)(h:H' b=none):H b=none:=by
 cases e:H b with
 |none=>rfl
 |some o=>rw[x.keep b o e hM]at h;cases h
section
variable{M M1 M2:Mh}
def Iv.mono(e:jU!)(h:jW_):Iv KF G' fs vs:=Paired.mapP h λ_ _ z=>⟨z.1,z.2.mono e⟩
def Fu.mono(e:jU!)(h:z1!)(hH:H' a=H a):Fu P w KF G' H' a c:=by
 cases c with
 |lst xs=>obtain⟨vs,Y,h2⟩:=h;exact⟨vs,oM!,oM_⟩
 |dct σ ep=>obtain⟨es,Y,h2⟩:=h;exact⟨es,oM!,oM_⟩
 |obj C fs=>obtain⟨dx,vs,Y,h2⟩:=h;exact⟨dx,vs,oM!,oM_⟩
def Fu.has(h:z1!):H a≠none:=by
 cases c with
 |lst xs=>obtain⟨vs,Y,h2⟩:=h;rw[Y];simp
 |dct σ ep=>obtain⟨es,Y,h2⟩:=h;rw[Y];simp
 |obj C fs=>obtain⟨dx,vs,Y,h2⟩:=h;rw[Y];simp
def MR.has(m:bx_)(h:M c≠none):H c≠none:=by
 cases e:M c with
 |none=>exact absurd e h
 |some q=>exact(m.cell c q e).2.has
def XM.trans(a:XM M G H M1 G1 H1)(b:XM M1 G1 H1 M2 G2 H2)(m:z2!):XM M G H M2 G2 H2 where
 g:=a.g.trans b.g
 sub:=b.sub
 new:=λc h=>by
  obtain z|z:=b.new c h
  .exact a.new c z
  .cases hM:M c with
   |none=>exact .inr z2_
   |some q=>exact absurd z (m.has (a.cells c z3!))
 keep:=λc o h hM=>by
  refine b.keep c o (a.keep c o h hM) ?_;cases e:M1 c with
  |none=>rfl
  |some q=>
   rcases a.dom c oN! with z|z
   .exact absurd hM z
   .rw[h]at z;cases z
 dom:=λc h=>by
  obtain z|z:=b.dom c h
  .exact a.dom c z
  .cases hM:M c with
   |none=>exact .inr z2_
   |some q=>exact .inl d_
 cells:=λc h=>b.cells c (a.cells c h)
def XM.ext(x:i0!):XM M G H M G' H':=⟨x.g,x.sub,x.new,λb o h _=>x.h b o h,br_,oL_⟩
def MR.ext(m:bx_)(x:i0!):MR P w KF M G' H':=⟨λa c e=>by
 obtain⟨Y,h2⟩:=m.cell a c e;have hn:H a≠none:=h2.has;refine z5!
 .cases q:G' a with
  |none=>rfl
  |some o=>
   rcases x.new a ce! with z|z
   .exact absurd Y z
   .exact absurd z hn
 .cases q:H a with
  |none=>exact absurd q hn
  |some o=>exact x.h a o q⟩
end
structure Qn(P:yL!)(w:yK!)(KF:zr!)(own:l!)(G H:Hp)(Z:St)(ρ:Ab)(M:Mh):Prop where
 or:OR KF own G H Z ρ
 mr:MR P w KF M G H
 dj:∀i∈own,∀p,Z[i]?=some ci!->M p=none
section
variable{M M' M1 M2:Mh}
def OR.growM(h:bQ_)(x:jW!)(dj:∀i∈own,∀p,Z[i]?=some ci!->M p=none):OR KF own G' H' Z ρ where
 sub:=x.sub
 len:=h.len
 at_:=λi d q n=>let⟨v,Y,h2⟩:=h.at_ i d q n;wp!
 own_:=λi hi=>by
  obtain⟨p,ds,vs,Y,h2,h3,h4,h5⟩:=h.own_ i hi;refine⟨p,ds,vs,Y,h2,x.keep _ _ h3 (dj i hi p h2),?_,h5.mono x.g⟩;cases q:G' p with
  |none=>rfl
  |some o=>
   rcases x.new p ce! with z|z
   .exact absurd h4 z
   .rw[h3]at z;cases z
 dis:=h.dis
def Qn.grow(s:gP!)(x:jW!)(m:z5_):Qn P w KF own G' H' Z ρ M':=
 ⟨s.or.growM x s.dj,m,λi hi p e=>by
  cases q:M' p with
  |none=>rfl
  |some c=>
   obtain⟨p',ds,vs,Y,h2,h3,h4,h5⟩:=s.or.own_ i hi;rw[e]at h2;cases h2;rcases x.dom p ce! with z|z
   .exact absurd (s.dj i hi p e) z
   .rw[h3]at z;cases z⟩
end
abbrev WE:=Ab->Mh->oN_->Prop
abbrev WA:=Ab->Mh->z6_->Prop
abbrev WT:=Ab->Mh->(Bool->Mh->Prop)->Prop
section
variable(P:yL!)(w:yK!)(KF:zr!)(own:List Nat)
inductive Zw(f:WE)(Z:St)(H:Hp)(Q:VK):Prop
 |mk (G:Hp) (ρ:Ab) (M:Mh) (R:t_) (st:gP!) (e:gP_) (k:∀d M' v G' H',R d M'->XM M G H M' G' H'->MR P w KF M' G' H'->Aj KF G' d v->Q v H'):Zw f Z H Q
inductive EZ(f:WA)(Z:St)(H:Hp)(Q:cx!):Prop
 |mk (G:Hp) (ρ:Ab) (M:Mh) (R:z7_) (st:gP!) (e:gP_) (k:∀d M' v G' H',R d M'->XM M G H M' G' H'->MR P w KF M' G' H'->Af KF G' d v->Q v H'):EZ f Z H Q
inductive Xt(f:WT)(Z:St)(H:Hp)(Q:dd!):Prop
 |mk (G:Hp) (ρ:Ab) (M:Mh) (R:Bool->Mh->Prop) (st:gP!) (e:gP_) (k:∀d M' G' H',R d M'->XM M G H M' G' H'->MR P w KF M' G' H'->Q d H'):Xt f Z H Q
end
structure ME(X:Cx)(own:l!)(e:Expr)(f:WE):Prop where
 ok:PE X e (Zw X.prog X.w X.K own f)
structure MA(X:Cx)(own:l!)(es:cx_)(f:WA):Prop where
 ok:PA X es (EZ X.prog X.w X.K own f)
structure MT(X:Cx)(own:l!)(e:Expr)(f:WT):Prop where
 ok:PT X e z8_
structure MW(X:Cx)(own:l!)(e:Expr)(f:WT):Prop where
 ok:PW X e z8_
nonrec def wl(f:i_):WE:=λρ M R=>match f ρ with|some d=>R d M|none=>False
def Dg(f:aZ!):WT:=λρ M R=>match f ρ with|some d=>R d M|none=>False
section
variable{X:Cx}{es rest:List Expr}
def eR(h:hH!)(hw:∀Z G H Q ρ M R,Qn X.prog X.w X.K own G H Z ρ M->f ρ M R->(∀d M' v G' H',R d M'->XM M G H M' G' H'->MR X.prog X.w X.K M' G' H'->Aj X.K G' d v->Q v H')->t Z H Q):ME X own e f:=
 Aa!
def c2h(h:fN_)(hw:∀Z G H Q ρ M R,Qn X.prog X.w X.K own G H Z ρ M->fs ρ M R->(∀d M' v G' H',R d M'->XM M G H M' G' H'->MR X.prog X.w X.K M' G' H'->Af X.K G' d v->Q v H')->t Z H Q):MA X own es fs:=
 ⟨λp h1 s Z H Q I ⟨G,ρ,M,R,st,e,k⟩=>h p h1 s Z H Q I oO!⟩
def a7a(h:PT X e t)(hw:Ab_):MT X own e ft:=
 Aa!
def c8f(h:ln_)(hw:Ab_):MW X own e ft:=
 ⟨λwh h1 s Z H Q I ⟨G,ρ,M,R,st,e,k⟩=>h wh h1 s Z H Q I oO!⟩
def b7g(h:wl g ρ M R):∃d,g ρ=some d/\R d M:=by
 unfold wl at h;split at h
 .exact Ad!
 .exact h.elim
def b1d(h:Dg gt ρ M R):∃d,gt ρ=some d/\R d M:=by
 unfold Dg at h;split at h
 .exact Ad!
 .exact h.elim
def aD(h:DE X own e g):ME X own e (wl g):=eR h.ok λZ G H Q ρ M R st e' k=>by
 obtain⟨d,e1,e2⟩:=b7g e';exact⟨G,ρ,d,st.or,e1,λv G' H' x r=>k d M v G' H' e2 oO_ oP! r⟩
def fV(h:DT X own e gt):MT X own e (Dg gt):=a7a h.ok λZ G H Q ρ M R st e' k=>by
 obtain⟨d,e1,e2⟩:=b1d e';exact⟨G,ρ,d,st.or,e1,λG' H' x=>k d M G' H' e2 oO_ oP!⟩
def Ac:WA:=λ_ M R=>R [] M
def Aa(f:WE)(fs:WA):WA:=λρ M R=>f ρ M λd M1=>fs ρ M1 λds M2=>R cO_ M2
def aP:MA X own [] Ac:=c2h fI λZ G H Q ρ M R st e k=>k [] M [] G H e jY_ st.mr Af.nil
def aF(h:a4!)(hs:e2_)(hst:T!:=by rfl):MA X own am! (Aa f fs):=
 c2h wY! λZ G H Q ρ M R st e' k=>⟨G,ρ,M,_,st,e',λd M1 v G1 H1 r1 x1 m1 q1=>⟨G1,ρ,M1,_,st.grow x1 m1,r1,λds M2 vs G2 H2 r2 x2 m2 q2=>
  k _ M2 _ G2 H2 r2 bh! m2 Af!⟩⟩
def Wk(P:yL!)(w:yK!)(KF:zr!)(r:R2)(g:Af_):Prop:=∀{x y:V} {dx dy d:D} {M:Mh} {G H:Hp} {Q:VK},Ar G H->MR P w KF M G H->Aj KF G dx x->Aj KF G dy y->g M dx dy=some d->i2!->r x y H Q
def Gg.m{g:gj_}(h:Gg KF r g):Wk P w KF r oP_:=λs _ rx ry e k=>h s rx ry e k
nonrec def w2(g:Af_)(fa fb:WE):WE:=λρ M R=>fa ρ M λx M1=>fb ρ M1 λy M2=>match g M2 x y with|some d=>R d M2|none=>False
def b7k(hg:gQ!)(st:Ag!)(e:w2 gm fa fb ρ M R)
  (k:∀d M' v G' H',R d M'->XM M G H M' G' H'->MR X.prog X.w X.K M' G' H'->Aj X.K G' d v->Q v H'):Zm r (Zw X.prog X.w X.K own fa) (Zw X.prog X.w X.K own fb) Z H Q:=
 ⟨G,ρ,M,_,st,e,λx M1 u G1 H1 r1 x1 m1 q1=>⟨G1,ρ,M1,_,st.grow x1 m1,r1,λy M2 v G2 H2 r2 x2 m2 q2=>by
  have r2:(match gm M2 x y with|some d=>R d M2|none=>False):=r2;split at r2
  .rename_i d hd;exact hg x2.sub m2 a4_ q2 hd λz G3 H3 x3 q3=>k d M2 z G3 H3 r2 ((bh!).trans (.ext x3) m2) (m2.ext x3) q3
  .exact r2.elim⟩⟩
def nF(ho:lP_)(hg:gQ!)(ha:ag!)(hb:by!):ME X own lQ! jZ!:=
 eR wM_ λZ G H Q ρ M R st e k=>b7k hg st e k
def jF(ho:bE!)(hg:gQ!)(ha:ag!)(hb:by!)(hm:dd_):ME X own de! jZ!:=
 eR wL_ λZ G H Q ρ M R st e k=>b7k hg st e k
def fA(hr:Um X r)(hg:gQ!)(ha:ag!)(hb:by!)(hs:Ni b):ME X own mG! jZ!:=
 eR wM! λZ G H Q ρ M R st e k=>b7k hg st e k
nonrec def wT(f:WE):WT:=λρ M R=>f ρ M λd M1=>match d with|.bl b=>R b M1|_=>False
def fX(ho:bE!)(hg:gQ!)(ha:ag!)(hb:by!)(hm:dd_):MT X own de! (wT jZ!):=
 a7a wN! λZ G H Q ρ M R st e k=>b7k (own:=own) (Q:=wN_) hg st e λd M' v G' H' r' x' m' q'=>by
  cases d<;>first|exact r'.elim|skip
  cases cR q';exact Ah!
def gM(h:a4!)(he:hH_:=by intro _;rfl):MT X own e (wT f):=
 a7a wP! λZ G H Q ρ M R st e k=>⟨G,ρ,M,_,st,e,λd M' v G' H' r' x' m' q'=>by
  cases d<;>first|exact r'.elim|skip
  cases cR q';exact Ah!⟩
def Gh(ft fu:WT):WT:=λρ M R=>ft ρ M λb M1=>if b then fu ρ M1 R else R false M1
def Mt(ft:WT):WT:=λρ M R=>ft ρ M λb M1=>R (!b) M1
def qV(h:oQ_):MW X own lt_ ft:=wP_
def pA(ha:oQ_)(hb:MW X own d0! fu):MW X own d0_ (Gh ft fu):=
 c8f wQ! λZ G H Q ρ M R st e k=>⟨G,ρ,M,_,st,e,λx M1 G1 H1 r1 x1 m1=>by
  cases x with
  |true=>exact jS ⟨G1,ρ,M1,R,jZ_,r1,λd M2 G2 H2 r2 x2 m2=>k d M2 G2 H2 r2 bh! m2⟩
  |false=>exact jT (k _ M1 G1 H1 r1 x1 m1)⟩
def b9f(h:MW X own e ft):MT X own e ft:=wS_
def xW(h:oQ_):MT X own d1! (Mt ft):=
 a7a (b2j h.ok) λZ G H Q ρ M R st e k=>⟨G,ρ,M,_,st,e,λx M1 G1 H1 r1 x1 m1=>k _ M1 G1 H1 r1 x1 m1⟩
def Km(fa fb:WE):WE:=λρ M R=>wT fa ρ M λb M1=>if b then fb ρ M1 R else R X! M1
def Ms(fa fb:WE):WE:=λρ M R=>wT fa ρ M λb M1=>if b then R u_ M1 else fb ρ M1 R
def Ux(fa:WE):WE:=λρ M R=>wT fa ρ M λb M1=>R (.bl (!b)) M1
def sW(h:ag!):ME X own lu_ fa:=wT!
def yC(ha:ag!)(hb:ME X own d0! fb):ME X own d0_ (Km fa fb):=
 eR wT_ λZ G H Q ρ M R st e k=>⟨G,ρ,M,_,st,e,λd M1 v G1 H1 r1 x1 m1 q1=>by
  cases d<;>first|exact r1.elim|skip
  rename_i x;cases cR q1;refine i4!;cases x with
  |true=>exact jS j0_
  |false=>exact jT Ai!⟩
def b4j(ha:ag!)(hb:ME X own fA_ fb):ME X own fB! (Ms fa fb):=
 eR wW_ λZ G H Q ρ M R st e k=>⟨G,ρ,M,_,st,e,λd M1 v G1 H1 r1 x1 m1 q1=>by
  cases d<;>first|exact r1.elim|skip
  rename_i x;cases cR q1;refine i4!;cases x with
  |false=>exact jT j0_
  |true=>exact jS Ai!⟩
def c4r(ha:ag!):ME X own d1! (Ux fa):=
 eR (b3a ha.ok) λZ G H Q ρ M R st e k=>⟨G,ρ,M,_,st,e,λd M1 v G1 H1 r1 x1 m1 q1=>by
  cases d<;>first|exact r1.elim|skip
  cases cR q1;exact⟨_,rfl,k _ M1 _ G1 H1 r1 x1 m1 Aj.bl⟩⟩
def Zu(ft:WT)(fa fb:WE):WE:=λρ M R=>ft ρ M λb M1=>if b then fa ρ M1 R else fb ρ M1 R
def c2g(hc:j1_)(ha:ag!)(hb:by!):ME X own lv_ (Zu ft fa fb):=
 eR wX_ λZ G H Q ρ M R st e k=>⟨G,ρ,M,_,st,e,λx M1 G1 H1 r1 x1 m1=>by
  cases x with
  |true=>exact jS j0_
  |false=>exact jT j0_⟩
def Uv(fs:WA):WE:=λρ M R=>fs ρ M λds M1=>e_<=1000/\R cO! M1
def b4h(h:e2_):ME X own (.Tuple es n pos) (Uv fs):=
 eR (b2x h.ok) λZ G H Q ρ M R st e k=>⟨G,ρ,M,_,st,e,λds M1 vs G1 H1 r1 x1 m1 q1=>⟨by rw[<-aH q1];exact fB r1.1,λp hp=>
  k _ M1 _ _ _ r1.2 (x1.trans (.ext Aj_) m1) (m1.ext Aj_) (fK (x1.sub.free hp) q1)⟩⟩
end
section
variable{KF:zr!}
def MR.nocell(m:bx_)(h:ch!):M p=none:=by
 cases e:M p with
 |none=>rfl
 |some q=>exact absurd h (m.has oN!)
def XM.laid(s:B!)(hp:ch!):XM M G H (mup M p c) G eE_:=by
 show"#;";refine⟨eF!,λb u e=>by rw[aW (ne (s b u e))];exact s b u e,cS_,λb u e _=>by rw[aW (ne e)];exact e,aY_,aY_⟩
 .by_cases hb:b=p
  .subst hb;exact .inr hp
  .rw[a5!]at h;exact .inl h
 .by_cases hb:b=p
  .subst hb;rw[mup_same];simp
  .rw[a5!];exact h
def MR.laid(m:bx_)(hp:ch!)(s:B!)(h:Fu P w KF G eE_ p c):MR P w KF (mup M p c) G eE_:=⟨λb q e=>by
 by_cases hb:b=p
 .show"!~";exact⟨s.free hp,h⟩
 .rw[a5!]at e;obtain⟨Y,h2⟩:=m.cell b q e;exact Am_⟩
def XM.write(m:bx_)(s:B!)(ha:M a=some c0):XM M G H (mup M a c) G cv!:=by
 have hG:=(m.cell a c0 ha).1;refine⟨eF!,λb u e=>by rw[aW (cD e hG)];exact s b u e,cS_,λb u e hb=>?_,aY_,aY_⟩
 .have:b≠a:=λz=>by subst z;rw[ha]at hb;cases hb
  rw[aW this];exact e
 .show"#>"
  .subst hb;exact .inl (by rw[ha];simp)
  .rw[a5!]at h;exact .inl h
 .show"#>"
  .subst hb;rw[mup_same];simp
  .rw[a5!];exact h
def MR.write(m:bx_)(ha:M a=some c0)(h:Fu P w KF G cv! a c):MR P w KF (mup M a c) G cv!:=⟨λb q e=>by
 show"#>"
 .show"!~";exact⟨(m.cell _ c0 ha).1,h⟩
 .rw[a5!]at e;obtain⟨Y,h2⟩:=m.cell b q e;exact Am_⟩
end
open Classical in
def Kr(σ:p_)(d:D)(ep:Nat):Nat:=if(c0!).isSome then ep else ep+1
def FO(KF:zr!)(G:Hp):Option D->Option Value->Prop
 |some d,some u=>Bz KF G d u
 |none,none=>True
 |_,_=>False
section
def eC(I:a_)(m:bh_)(sub:B!)(e:bV_):∃es,H a=some jV_/\Gb X.prog X.w X.K G σ es/\Lz s.heap a es ep/\db!=false/\aa_<=big/\Lw X.prog X.w s.heap es.toArray e2!:=by obtain⟨es,Y,h2⟩:=(m.cell a _ e).2;obtain⟨⟨h3,h4,h5⟩,_⟩:=(show Dp X.prog X.w H s.heap a jV_ from I.hok a _ Y);exact⟨es,Y,h2,h3,h4,h5,h2.ents I sub⟩
def zQ(I:a_)(e:H a=some jV_)(D':Lz h' a a7 bc)(hs:uR_)(hn:db!=false)(hl:a7.length<=big):Inv X h1 Z (upd H a (dE a a7 bc)) {s with heap:=h',toks:=t'}:=by refine c1b I s0_ hs (let⟨o,h,_⟩:=D';oS_) ⟨⟨D',hn,hl⟩,let⟨o,h,_⟩:=D';oS_,Aq_⟩;obtain⟨⟨o,z1,z2,z3⟩,z4⟩:=z;exact j2!
def zS(hu:ao!)(I:a_)(m:bh_)(sub:B!)(e:bV_)(r:bx!)(hk:a3_)
  (h:∀o s',Inv X h1 Z H s'->FO X.K G c0! o->Q o s'):wpAny e! A zQ_ Q E s:=by
 obtain⟨es,Y,h2,h3,h4,h5,h6⟩:=eC I m sub e;refine c8t hu h3 h6 gQ_ λtk=>h _ _ eb_ ?_;obtain⟨i1,i2,i3,i4⟩|⟨j,y,e',i1,i2,i3,i4,i5,i6,i7⟩:=h2.look hk
 .rw[i1,i2];exact h7_
 .rw[i1,i4];show FO X.K G (some y) (es[j]?.map (·.val));rw[i3];exact i5
def kput_len:∀(l:p_) (d x:D),(Bq l d x).length<=bL!+1
 |[],_,_=>by simp[Bq]
 |(y,z)::l,d,x=>by
  unfold Bq;split
  .simp
  .have:=kput_len l d x;simp only[HJ];omega
def a5n(hu:ao!)(I:a_)(m:bh_)(sub:B!)(e:bV_)(r:bx!)(hk:a3_)(rv:j2_)(hl:cp_)
  (h:As!):wpAny e! A zT! Q E s:=by
 obtain⟨es,Y,h2,h3,h4,h5,h6⟩:=eC I m sub e;have ay:=MY h2.1;refine c8s hu h3 h6 gQ_ gR! λh' tk D' hs=>?_;have ml:=h2.put (x:=x) hk r rv;have rj:Xd (Kk e2! k) ep=Kr σ d ep:=by
  unfold Kr;obtain⟨i1,i2,i3,i4⟩|⟨j,y,e',i1,i2,i3,i4,i5,i6,i7⟩:=h2.look hk
  .rw[i1,i2];simp[Xd]
  .rw[i1,i4];simp[Xd]
 rw[rj]at D';have v0:=MY ml.1;have:=kput_len σ d x;exact h _ _ (zQ I Y D' hs h4 a!) ⟨_,bK,ml⟩
def a5o(hu:dI_)(I:a_)(m:bh_)(sub:B!)(e:bV_)(r:bx!)(hk:a3_)(hx:As_)
  (h:∀o s',Inv X h1 Z H s'->Bz X.K G x o->Q o s'):wpAny e! A (getItem E! u) Q E s:=by
 obtain⟨es,Y,h2,h3,h4,h5,h6⟩:=eC I m sub e;have hT:=e3_;unfold getItem;refine IR (GM (wpAny_sequenceKey hT b_ (GM (JA (name:=tT_) hT PySem.slot_dict_getitem (IT PySem.slot_dict_getitem hT PySem.entry_dict_getitem ?_ (PySem.args_dict_getitem _ _))))));show wpAny e! A.in1 j3_ _ _ s;refine GM j4!;rw[hx]at ho;cases o with
 |none=>exact ho.elim
 |some o=>exact GP ⟨o,rfl,GP (h o s' I' ho)⟩
def qB(hu:dI_)(I:a_)(m:bh_)(sub:B!)(e:bV_)(r:bx!)(hk:a3_)
  (h:∀s',Inv X h1 Z H s'->Q (c0!).isSome s'):wpAny e! A (contains E! u) Q E s:=by
 obtain⟨es,Y,h2,h3,h4,h5,h6⟩:=eC I m sub e;have hT:=e3_;unfold contains;refine IR (GM (PJ hT PM.lookup ?_));rw[HA (by rw[beq_builtin_none];exact HV)];refine GM (wpAny_callSpecialUnlessNone?_slot (name:=Str.ofString "__contains__") hT PM (IT PM hT PySem.entry_dict_contains ?_ (PySem.args_dict_contains _ _)));show wpAny e! A.in1 j3_ _ _ s;refine GM j4!;cases o with
 |none=>
  have hn:kget σ d=none:=by
   cases q:kget σ d with
   |none=>rfl
   |some y=>rw[q]at ho;exact ho.elim
  have h:=h s' I';rw[hn]at h;exact GM (wpAny_pendingKey_other h4 (GP At!))
 |some o=>
  have hn:(c0!).isSome=true:=by
   cases q:kget σ d with
   |none=>rw[q]at ho;exact ho.elim
   |some y=>rfl
  have h:=h s' I';rw[hn]at h;exact GP At!
def a5m(hu:dI_)(I:a_)(m:bh_)(sub:B!)(e:bV_)(r:bx!)(hk:a3_)(rv:j2_)(hl:cp_)
  (h:As!):wpAny e! A (setItem E! u v) Q E s:=by
 obtain⟨es,Y,h2,h3,h4,h5,h6⟩:=eC I m sub e;have hT:=e3_;unfold setItem;refine IR (GM (wpAny_sequenceKey hT b_ (GM (JA (name:=Str.ofString "__setitem__") hT PySem.slot_dict_setitem (IT PySem.slot_dict_setitem hT PySem.entry_dict_setitem ?_ (PySem.args_dict_setitem _ _ _))))));refine GM (NN hT ?_);show wpAny e! A.in1 (dictSet a u v>>=_) _ _ s;exact GM (a5n (A:=A.in1) hu I m sub e r hk rv hl λa7 s' I' c'=>GP ⟨bH!,rfl,GP (h a7 s' I' c')⟩)
def c1d(hu:dI_)(I:a_)(m:bh_)(sub:B!)(e:bV_)(r:bx!)(hk:a3_)
  (h:∀o s',Inv X h1 Z H s'->Bz X.K G ((c0!).getD .non) o->Q o s'):wpAny e! A (call Av! [bb!,u]) Q E s:=by
 obtain⟨es,Y,h2,h3,h4,h5,h6⟩:=eC I m sub e;refine IT OJ h3.typeIs PySem.F.entry_dict_get ?_ (PySem.F.args_dict_get_2 _ _);show wpAny e! A.in1 j3_ _ _ s;refine GM j4!;cases q:kget σ d with
 |none=>
  rw[q]at ho;cases o with
  |none=>
   have h:=h .none s' I';rw[q]at h;exact GM (wpAny_missed_other h4 (GP ⟨bH!,rfl,h ⟨V.non,Aj.non,rfl⟩⟩))
  |some o=>exact ho.elim
 |some y=>
  rw[q]at ho;cases o with
  |none=>exact ho.elim
  |some o=>
   have h:=h o s' I';rw[q]at h;exact GP Aw_
def c1c(hu:dI_)(I:a_)(m:bh_)(sub:B!)(e:bV_)(r:bx!)(hk:a3_)(rv:j2_)
  (h:∀o s',Inv X h1 Z H s'->Bz X.K G ((c0!).getD x) o->Q o s'):wpAny e! A (call Av! [bb!,u,v]) Q E s:=by
 obtain⟨es,Y,h2,h3,h4,h5,h6⟩:=eC I m sub e;refine IT OJ h3.typeIs PySem.F.entry_dict_get ?_ (PySem.F.args_dict_get_3 _ _ _);show wpAny e! A.in1 j3_ _ _ s;refine GM j4!;cases q:kget σ d with
 |none=>
  rw[q]at ho;cases o with
  |none=>
   have h:=h v s' I';rw[q]at h;exact GM (wpAny_missed_other h4 (GP ⟨v,rfl,h rv⟩))
  |some o=>exact ho.elim
 |some y=>
  rw[q]at ho;cases o with
  |none=>exact ho.elim
  |some o=>
   have h:=h o s' I';rw[q]at h;exact GP Aw_
def uR(hu:dI_)(I:a_)(m:bh_)(sub:B!)(e:bV_)(r:bx!)(hk:a3_)(rv:j2_)(hl:cp_)
  (hs:∀y o s',kget σ d=some y->Inv X h1 Z H s'->Bz X.K G y o->Q o s')
  (hn:kget σ d=none->∀a7 s',Inv X h1 Z j6_ s'->Fu X.prog X.w X.K G j6_ a (.dct oL! bU_)->Q v s'):wpAny e! A (call (.builtin "dict.setdefault") [bb!,u,v]) Q E s:=by
 obtain⟨es,Y,h2,h3,h4,h5,h6⟩:=eC I m sub e;have ay:=MY h2.1;have hT:=e3_;refine IT RO hT PySem.F.entry_dict_setdefault ?_ (PySem.F.args_dict_setdefault_3 _ _ _);unfold Builtin.«dict.setdefault» Ax_;refine GM oU!;dsimp only;rw[HA (by rw[h4];exact HV)];obtain⟨i1,i2,i3,i4⟩|⟨j,y,e',i1,i2,i3,i4,i5,i6,i7⟩:=h2.look hk
 .refine GM (nY (A:=A.in1) hu h3 h6 gQ_ gR! (λj e tk q=>by rw[i1]at q;cases q) λh' tk _ D' fh=>GP ⟨_,rfl,hn i2 _ _ Ay! Ay_⟩)
  .rw[HN,JK];omega
  .have:=h2.put (x:=x) hk r rv;rw[i1]at this;show"#-"
 .exact GM (nY (A:=A.in1) hu h3 h6 gQ_ gR! (λj' e tk q q2=>by
   rw[i1]at q;cases q;rw[i3]at q2;cases q2;exact GP ⟨_,rfl,hs y _ _ i4 eb_ i5⟩) λh' tk q=>by rw[i1]at q;cases q)
def c6d(hu:dI_)(I:a_)(m:bh_)(sub:B!)(e:bV_)(r:bx!)(hk:a3_)(hx:As_)
  (h:∀a7 o s',Inv X h1 Z j6_ s'->Fu X.prog X.w X.K G j6_ a (.dct (Gc σ d) bU_)->Bz X.K G x o->Q o s'):wpAny e! A (call (.builtin "dict.pop") [bb!,u]) Q E s:=by
 obtain⟨es,Y,h2,h3,h4,h5,h6⟩:=eC I m sub e;have hT:=e3_;obtain⟨i1,i2,i3,i4⟩|⟨j,y,e',i1,i2,i3,i4,i5,i6,i7⟩:=h2.look hk
 .rw[i2]at hx;cases hx
 .rw[i4]at hx;cases hx;refine IT PySem.F.slot_dict_pop hT PySem.F.entry_dict_pop ?_ (PySem.F.args_dict_pop_2 _ _);unfold Builtin.«dict.pop» Ax_;refine GM oU!;dsimp only;have ag:wpAny e! A.in1 zW_ (λold s'=>∃e o,old=some e/\e.val=o/\Q o s') E s:=by
   refine c5v (A:=A.in1) hu h3 h6 gQ_ gR! i1 i3 λh' tk D' fh=>⟨e',_,rfl,rfl,h _ _ _ Ay! Ay_ i5⟩
   .exact IL (List.length_eraseIdx_le _ _) h5
   .rw[i7];exact h2.del
  obtain⟨o,ho,_,hd⟩:=id h3;have hne:es.toArray.isEmpty=false:=by
   cases es with
   |nil=>simp at i3
   |cons _ _=>rfl
  by_cases hp:(keyPart u).isSome=true
  .rw[HC hp];refine GM K_;rw[HA HV];show"!c"
  .rw[HA hp];refine GM (LV ho hd (GM K_));rw[hne,HA HV];show"!c"
end
section
def a0r(I:a_)(qa:jp!)(qb:xZ_)(rd:gz!)(re:gz_)(hu:ao!)
  (h:js!):SeqAt.RcNeAt A s E! el_ (!Fq ds es):=by
 obtain⟨us,rv,p1,_⟩:=I.tuple qa;obtain⟨us',ax,p2,_⟩:=I.tuple qb;have Y:=aH rd;have h2:=aH re;have h3:=d4_;have h4:=jt_;have z:=SeqAt.RcNeAt.tuples (A:=A) (e:=js_) p1 p2 hu jt!;have e:x1!=Fq ds es:=by
  show"#9"
  .rw[hl,Nat.min_self,<-hl,ju!,hl];simp
  .rw[ju_];have:(e_==aa_)=false:=by simpa using hl
   rw[this,QP]
 rw[e]at z;exact z
def a3t(I:a_)(qa:n9!)(qb:x2_)(rd:gz!)(re:gz_)(hu:ao!)
  (h:js!):SeqAt.RcNeAt A s E! el_ (!Fq ds es):=by
 show"!B";have h4:=jt_;by_cases hl:e_=aa_
 .have z:=SeqAt.RcNeAt.lists (A:=A) (e:=js_) p1.isList p2.isList nI! hu jt!;rw[GW,<-h3,<-Y,ju!]at z;exact z
 .rw[ju_];exact SeqAt.RcNeAt.lists_lengths p1.isList p2.isList x2! hu
def b2a(I:a_)(n:cl_)(n':eR_)(hu:ao!)(r:dC_)(r':gA_)(ru:aT!)(az:gB!)(hT:∀xs ys,d=.tup xs->d'=.tup ys->SeqAt.RcNeAt A s u u' j7!)(hL:∀xs ys,d=.lst xs->d'=.lst ys->SeqAt.RcNeAt A s u u' j7!):SeqAt.RcNeAt A s u u' j7!:=by
 show"!i"
 all_goals first|exact hT _ _ rfl rfl|exact hL _ _ rfl rfl|(unfold eqD;(try simp only[Bool.not_false,KM]);with_reducible first|exact .none_none|exact .same _|exact .none_bool _|exact .none_int _ _|exact .none_str _ _|exact .none_tuple ‹_› hu|exact .none_list ‹_› hu|exact .bool_none _|exact .bool_bool _ _|exact .bool_int _ _ _|exact .bool_str _ _ _|exact .bool_tuple _ ‹_› hu|exact .bool_list _ ‹_› hu|exact .int_none _ _|exact .int_bool _ _ _|exact .int_int _ _ _ _|exact .int_str _ _ _ _|exact .int_tuple _ _ ‹_› hu|exact .int_list _ _ ‹_› hu|exact .str_none _ _|exact .str_bool _ _ _|exact .str_int _ _ _ _|exact .str_str _ _ _ _|exact .str_tuple _ _ ‹_› hu|exact .str_list _ _ ‹_› hu|exact .tuple_none ‹_› hu|exact .tuple_bool _ ‹_› hu|exact .tuple_int _ _ ‹_› hu|exact .tuple_str _ _ ‹_› hu|exact .tuple_list ‹_› ‹_› hu|exact .list_none ‹_› hu|exact .list_bool _ ‹_› hu|exact .list_int _ _ ‹_› hu|exact .list_str _ _ ‹_› hu|exact .list_tuple ‹_› ‹_› hu)
def b2b(I:a_)(d d':D)(n:cl_)(n':eR_)(hu:x4!)(r:dC_)(r':gA_)(ru:aT!)(az:gB!):SeqAt.RcNeAt A s u u' j7!:=
 b2a I n n' a! r r' ru az (λxs ys e e'=>by
  subst e e';obtain⟨a,vs,rfl,q,rr⟩:=bN r;obtain⟨b,ws,rfl,q',b6⟩:=bN r';cases ru;cases az;unfold Aw at n n';unfold dep at hu;unfold eqD;exact a0r I q q' rr b6 a! λus us' rv ax=>jL I xs ys A.in1 vs ws us us' n n' eT_ rr b6 rv ax) (λxs ys e e'=>by
  subst e e';obtain⟨a,vs,rfl,q,rr⟩:=bJ r;obtain⟨b,ws,rfl,q',b6⟩:=bJ r';cases ru;cases az;unfold Aw at n n';unfold dep at hu;unfold eqD;exact a3t I q q' rr b6 a! λus us' rv ax=>jL I xs ys A.in1 vs ws us us' n n' eT_ rr b6 rv ax)
def Yq(KF:zr!):R2:=λx y H Q=>∃dx dy,Aj KF H dx x/\Aj KF H dy y/\Aw dx=true/\Aw dy=true/\dep dx<=40/\Q (.bl (!eqD dx dy)) H
def oR(hu:ab!):Fw X sr! (Yq X.K):=by intro h1 s Z H x y v u Q I rx ry h;obtain⟨dx,dy,r1,r2,n1,n2,hd,q⟩:=h;exact b2b I dx dy n1 n2 a! r1 r2 rx ry X.prog X.w X.xe _ x5!
def Ed:D->D->Option D:=λx y=>if Aw x&&Aw y&&decide x5_ then some (.bl (!eqD x y))else none
def xM:Gg KF (Yq KF) Ed:=by
 show"!4";unfold Ed at e;show"!6"
 .show"!t";cases e;exact x6_
 .cases e
open Classical in
def Qp(KF:zr!)(H:Hp)(x:D)(u:yB!):Bool:=decide (∃d,Bz KF H d u/\Aw d=true/\eqD d x=true)
open Classical in
def a5h(I:a_)(r:Bz X.K H d u)(n:cl_):Qp X.K H x u=eqD d x:=by
 unfold Qp;cases h:eqD d x with
 |true=>exact HF ⟨d,r,n,h⟩
 |false=>
  refine HB ?_;rintro⟨d',⟨v',r',az⟩,n',h'⟩;obtain⟨v,r,ru⟩:=r;have:=ru.inj az;subst this;rw[xB I d d' v n n' r r']at h;rw[h]at h';cases h'
def oE(I:a_):∀{ds:b!} {vs:o!} {us:j_},Af X.K H ds vs->Aq vs us->Bt ds=true->us.any (Qp X.K H x)=ds.any λd=>eqD d x
 |[],vs,us,r,rv,_=>by cases bY r;cases rv;rfl
 |d::ds,vs,us,r,rv,n=>by
  obtain⟨v,t,rfl,r1,r2⟩:=bE r;unfold Bt at n;rw[HQ]at n;cases rv with
  |cons me oz=>rw[MO,MO,a5h I AD_ n.1,oE I r2 oz n.2]
def lD(I:a_)(rx:Aj X.K H x y)(ry:Be y v)(nx:Aw x=true):∀{ds:b!} {vs:o!} {us:j_},Af X.K H ds vs->Aq vs us->Bt ds=true->A.units+Dt ds<cLine->∀u∈us,SeqAt.EqAt A s u v (Qp X.K H x u)
 |[],vs,us,r,rv,_,_=>λu hu=>by cases bY r;cases rv;cases hu
 |d::ds,vs,us,r,rv,n,hd=>λu hu=>by
  obtain⟨z,t,rfl,r1,r2⟩:=bE r;unfold Bt at n;rw[HQ]at n;unfold Dt at hd;cases rv with
  |cons me oz=>
   obtain rfl|hu:=GT.mp hu
   .rw[a5h I ⟨z,r1,me⟩ n.1];exact b6c I d x A z y _ _ n.1 nx a! r1 rx me ry
   .exact lD I rx ry nx r2 oz n.2 a! u hu
def Yr(KF:zr!)(neg:Bool):R2:=λx y H Q=>∃p ys dx ds,y=.ref p/\nN!/\Aj KF H dx x/\Af KF H ds ys/\Aw dx=true/\Bt ds=true/\Dt ds<=40/\Q (.bl (if neg then !(ds.any λd=>eqD d dx)else ds.any λd=>eqD d dx)) H
def c4b(hu:ab!):Fw X iy! (Yr X.K false):=by
 intro h1 s Z H x y v u Q I rx ry h;obtain⟨p,ys,dx,ds,rfl,hq,r1,r2,n1,n2,hd,q⟩:=h;cases ry;obtain hq|hq:=hq
 .show"!Q";refine SeqAt.in_listAt dJ! pl.isList j8! eq_;rw[j9_,j8_];exact q
 .show"!{";refine SeqAt.in_tupleAt dJ! pl j8! eq_;rw[j9_,j8_];exact q
def a9g(hu:ab!):Fw X oW! (Yr X.K true):=by
 intro h1 s Z H x y v u Q I rx ry h;obtain⟨p,ys,dx,ds,rfl,hq,r1,r2,n1,n2,hd,q⟩:=h;cases ry;obtain hq|hq:=hq
 .show"!Q";refine SeqAt.notIn_listAt dJ! pl.isList j8! eq_;rw[j9_,j8_];exact q
 .show"!{";refine SeqAt.notIn_tupleAt dJ! pl j8! eq_;rw[j9_,j8_];exact q
def Ys(P:yL!)(w:yK!)(KF:zr!)(neg:Bool):R2:=λx y H Q=>∃(M:Mh) (G:Hp) (a:yz!) (σ:p_) (ep:Nat) (d:D) (k:MK),y=.ref a/\Ar G H/\MR P w KF M G H/\M a=some e3!/\Aj KF G d x/\De d=some k/\Q (.bl (if neg then !(c0!).isSome else(c0!).isSome)) H
def c4c(hu:ab!):Fw X iy! (Ys X.prog X.w X.K false):=by intro h1 s Z H x y v u Q I rx ry h;obtain⟨M,G,a,σ,ep,d,k,rfl,sub,m,e,r,hk,q⟩:=h;cases ry;exact GM AG!
def a9h(hu:ab!):Fw X oW! (Ys X.prog X.w X.K true):=by intro h1 s Z H x y v u Q I rx ry h;obtain⟨M,G,a,σ,ep,d,k,rfl,sub,m,e,r,hk,q⟩:=h;cases ry;exact GM AG!
def Xa(P:yL!)(w:yK!)(KF:zr!)(neg:Bool):R2:=λx y H Q=>Yr KF neg x y H Q\/Ys P w KF neg x y H Q
def sK(hu:ab!):Fw X iy! (Xa X.prog X.w X.K false):=(c4b hu).or (c4c hu)
def vM(hu:ab!):Fw X oW! (Xa X.prog X.w X.K true):=(a9g hu).or (a9h hu)
def Jh(M:Mh):D->Option as_
 |.lst xs=>some xs
 |.tup xs=>some xs
 |.fn a=>match M a with|some (.lst xs)=>some xs|_=>none
 |_=>none
def wY(sub:B!)(m:bx_)(r:bR!)(e:Jh M d=some xs):∃p ys,v=.ref p/\nN!/\Af KF G xs ys:=by
 cases d<;>first|(cases e;done)|skip
 .cases e;show"!Z";exact⟨p,vs,rfl,.inr gq_,rr⟩
 .cases e;obtain⟨p,vs,rfl,q,rr⟩:=bJ r;exact⟨p,vs,rfl,.inl nN_,rr⟩
 .rename_i a;cases fH r;simp only[Jh]at e;show"!6"
  .rename_i ys hy;cases e;obtain⟨_,vs,Y,h2⟩:=m.cell a _ hy;exact⟨a,vs,rfl,.inl (Ef.of Y),h2⟩
  .cases e
def Kz(neg:Bool)(M:Mh)(x y:D):Option D:=match y with
 |.fn a=>match M a with
  |some (.dct σ _)=>(De x).bind λ_=>some (.bl (if neg then !(kget σ x).isSome else(kget σ x).isSome))
  |_=>inS M x y
 |_=>inS M x y
where inS (M:Mh) (x y:D):Option D:=(Jh M y).bind λds=>if Aw x&&Bt ds&&decide (Dt ds<=40)then some yd! else none
def lQ:Wk P w KF (Xa P w KF neg) (Kz neg):=by
 intro x y dx dy d M G H Q sub m rx ry e k;have seq:Kz.inS neg M dx dy=some d->Xa P w KF neg x y H Q:=λe=>by
  obtain⟨ds,e1,e2⟩:=GN.mp e;split at e2
  .show"!t";cases e2;obtain⟨p,ys,rfl,q,rr⟩:=wY sub m ry e1;exact .inl ⟨p,ys,dx,ds,rfl,q,rx.mono sub,rr.mono sub,h.1.1,h.1.2,h.2,eN!⟩
  .cases e2
 unfold Kz at e;show"!6"
 .rename_i a;show"!6"
  .show"#G";cases e2;cases fH ry;exact .inr ⟨M,G,a,σ,ep,dx,kk,rfl,sub,m,hM,rx,e1,eN!⟩
  .exact seq e
 .exact seq e
def AQ(P:yL!)(w:yK!)(KF:zr!):R2:=λx y H Q=>∃(M:Mh) (G:Hp) (a:yz!) (σ:p_) (ep:Nat) (d z:D) (k:MK),x=.ref a/\Ar G H/\MR P w KF M G H/\M a=some e3!/\Aj KF G d y/\De d=some k/\kget σ d=some z/\∀v,Aj KF G z v->Q v H
def c5i(hu:ab!):Um X (AQ X.prog X.w X.K):=by
 intro value f8 h1 s Z H x y v u Q I rx ry h hs;obtain⟨M,G,a,σ,ep,d,z,k,rfl,sub,m,e,r,hk,hz,q⟩:=h;cases rx;obtain⟨es,Y,h2,h3,h4,h5,h6⟩:=eC I m sub e;unfold subscriptTail;refine GM ?_;rw[getitemInPython_of_ne h3.typeIs.not_modules];refine GM (PJ h3.typeIs PySem.F.slot_dict_getitem.lookup ?_);have ag:wpAny e! X.A (subscripted f8 false E! u) (λr de=>wpAny e! X.A (letTemporaryGo value E! r>>=λ_=>pure r) au_ X.xe de) X.xe s:=by
  rw[hs];exact wpAny_operating (a5o (A:=X.A) a! I m sub e ⟨_,r,ry⟩ hk hz λo s' I' ⟨v',r',az⟩=>GM (wpAny_letTemporaryGo (GP ⟨v',H,I',az,q v' r'⟩)))
 first
  |exact GP iE_
  |exact GM (GP iE_)
  |exact GM ag
def AR(P:yL!)(w:yK!)(KF:zr!):R2:=λx y H Q=>DY KF x y H Q\/AQ P w KF x y H Q
def dR(hu:ab!):Um X (AR X.prog X.w X.K):=aJ.or (c5i hu)
def Do(M:Mh)(x y:D):Option D:=match x with
 |.fn a=>match M a with
  |some (.dct σ _)=>(e5_).bind λ_=>kget σ y
  |some (.lst xs)=>match y with|.int i=>atI xs i|_=>none
  |_=>none
 |_=>ixD x y
def dQ:Wk P w KF (AR P w KF) Do:=by
 show"!b";unfold Do at e;show"!6"
 .rename_i a;cases fH rx;show"!6"
  .show"#G";exact .inr ⟨M,G,a,σ,ep,dy,d,kk,rfl,sub,m,hM,ry,e1,e2,λv r=>k v G H aD! r⟩
  .rename_i xs hM;show"!6"
   .rename_i i;cases aX ry;show"!w";obtain⟨v,e6,r6⟩:=mO h2 e;exact .inl (.inl ⟨a,vs,i,v,rfl,rfl,kb!,e6,k v G H aD! r6⟩)
   .cases e
  .cases e
 .exact .inl (aM sub rx ry e k)
def Gk(M:Mh)(x y:D):Option D:=match x with
 |.fn a=>match M a,y with
  |some (.lst xs),.lst ys=>if g!+P!<=big then some eI! else none
  |_,_=>none
 |_=>Ag x y
def gU:Wk P w KF (Qa KF) Gk:=by
 show"!b";unfold Gk at e;show"!6"
 .rename_i a;cases fH rx;show"!6"
  .rename_i xs ys hM;show"!6"
   .show"!G";show"!w";obtain⟨b,ws,rfl,qb,rb⟩:=bJ ry;exact .inr (.inr (.inr (.inr ⟨a,b,vs,ws,rfl,rfl,kb!,sub.seq qb,by rw[<-aH h2,<-aH rb];exact cV hl,λp hp=>k _ _ _ go! (cQ eJ_ (cS h2 rb))⟩)))
   .cases e
  .cases e
 .exact bD sub rx ry e k
end
def Du{α:Type}(o:Option α)(R:jF!):Prop:=match o with|some a=>R a|none=>False
def cC(h:Du o R):∃a,o=some a/\R a:=by
 cases o with
 |none=>exact h.elim
 |some a=>exact⟨a,rfl,h⟩
def Ic(C:yz!)(x:Str)(M:Mh)(d:D):Option D:=match d with
 |.fn a=>match M a with
  |some (.obj C' fs)=>if C'=C then fs.lookup x else none
  |_=>none
 |_=>none
def Gu(f:Str)(v:D):List bS!->List bS!
 |[]=>[(f,v)]
 |(g,x)::r=>if g=f then(g,v)::r else(g,x)::Gu f v r
def b5s(h:jW_):fs.lookup x=some d->∃v,vs.lookup x=some v/\Aj KF G d v:=by
 unfold Iv at h
 induction h with
 |nil=>intro e;cases e
 |@cons p q _ _ h t ih=>
  intro e;rw[II]at e ⊢;rw[<-h.1];show"!6"
  .cases e;exact⟨_,rfl,h.2⟩
  .exact ih e
def b5r(h:jW_):fs.lookup x=none->vs.lookup x=none:=by
 unfold Iv at h
 induction h with
 |nil=>exact λ_=>rfl
 |@cons p q _ _ h t ih=>
  intro e;rw[II]at e ⊢;rw[<-h.1];show"!6"
  .cases e
  .exact ih e
def c0h(r:bR!)(h:jW_):Iv KF G (Gu x d fs) (Jb x v vs):=by
 unfold Iv at h
 induction h with
 |nil=>exact .cons ⟨rfl,r⟩ .nil
 |@cons p q fs vs h t ih=>
  show Iv KF G (if p.1=x then(p.1,d)::fs else p::Gu x d fs) (if q.1=x then(q.1,v)::vs else q::Jb x v vs);rw[<-h.1];by_cases e:p.1=x
  .rw[HC e,HC e];exact .cons ⟨rfl,r⟩ t
  .rw[HA e,HA e];exact .cons h ih
section
def An(C:yz!)(x:Str)(f:WE):WE:=λρ M R=>f ρ M λd M1=>Du (Ic C x M1 d) λv=>R v M1
def bF(c:eb!)(n:Da X.K C x)(h:a4!)(hb:attributeBase e x X.env dZ_=eval e X.env:=by rfl):ME X own (.Attribute e x pos) (An C x f):=
 eR (c3w h.ok hb) λZ G H Q ρ M R st e k=>⟨G,ρ,M,_,st,e,λd M1 v G1 H1 r1 x1 m1 q1=>by
  obtain⟨z,Y,h2⟩:=cC r1;cases d<;>first|(cases Y;done)|skip
  rename_i ad;cases fH q1;simp only[Ic]at Y;split at Y
  .rename_i C' fs hM;split at Y
   .rename_i hC;subst hC;obtain⟨_,dx,vs,h3,h4⟩:=m1.cell ad _ hM;obtain⟨u,h5,h6⟩:=b5s h4 Y;exact⟨ad,_,dx,vs,u,rfl,h3,c,n,h5,k z M1 u G1 H1 h2 x1 m1 h6⟩
   .cases Y
  .cases Y⟩
def Pm(P:yL!)(w:yK!)(KF:zr!)(r:d7!)(g:AJ_):Prop:=∀{vs:o!} {ds:b!} {d:D} {M:Mh} {G H:Hp} {Q:VK},Ar G H->MR P w KF M G H->Af KF G ds vs->g M ds=some d->i2!->r vs H Q
def Ku.toM{KF:zr!}{r:d7!}{g:aZ_}(h:Ku KF r g):Pm P w KF r oP_:=λs _ r e k=>h s r e k
nonrec def w1(g:AJ_)(fs:WA):WE:=λρ M R=>fs ρ M λds M1=>Du (g M1 ds) λd=>R d M1
def fR{id:String}(hc:l8_)(hd:AK_)(hg:D_)(hm:b3!)(hv:mp_)(ha:e6!)(hn:b3_:=by decide)
  (au:x!:=by decide)(he:T!:=by rfl)(ar:ar!:=by rfl):ME X own az! (w1 g fs):=
 eR w1_ λZ G H Q ρ M R st e' k=>⟨G,ρ,M,_,st,e',λds M1 vs G1 H1 r1 x1 m1 q1=>by
  obtain⟨d,Y,h2⟩:=cC r1;exact hd x1.sub m1 q1 Y λv G2 H2 x2 q2=>k d M1 v G2 H2 h2 AL! (m1.ext x2) q2⟩
def b0a(hc:mq_)(hd:AK_)(hg:D_)(hm:b3!)(hv:il_)(ha:e6!)(hn:b3_:=by decide)
  (au:x!:=by decide)(he:T!:=by rfl)(ar:ar!:=by rfl):ME X own az! (w1 g fs):=
 eR w2_ λZ G H Q ρ M R st e' k=>⟨G,ρ,M,_,st,e',λds M1 vs G1 H1 r1 x1 m1 q1=>by
  obtain⟨d,Y,h2⟩:=cC r1;exact hd x1.sub m1 q1 Y λv G2 H2 x2 q2=>k d M1 v G2 H2 h2 AL! (m1.ext x2) q2⟩
def Gi(M:Mh):List D->Option D
 |[.str x]=>Bp [.str x]
 |[d]=>(Jh M d).map λxs=>.int g!
 |_=>none
def lY:Pm P w KF xo_ Gi:=by
 show"#'";unfold Gi at e;show"!6"
 .exact eZ sub r e k
 .obtain⟨xs,e1,rfl⟩:=GX.mp e;show"!n";refine⟨gu_,g!,rfl,?_,dy!⟩;rw[aH rr];exact q.elim (λz=>.inl AM!) λz=>.inr AM!
 .cases e
def Ro(M:Mh):List D->Option D
 |[d]=>(Jh M d).bind λxs=>if g!<=big then some A_ else none
 |_=>none
def c1m:Pm P w KF xp! Ro:=by
 show"#'";unfold Ro at e;show"!6"
 .obtain⟨xs,e1,e2⟩:=GN.mp e;split at e2
  .cases e2;show"!n";exact⟨p,ys,rfl,q,λl hl=>k _ _ _ (Br.laid sub hl) (cQ (sub.free hl) rr)⟩
  .cases e2
 .cases e
def Ht(fs:WA):WE:=λρ M R=>fs ρ M λds M1=>e_<=1000/\∀p,M1 p=none->R z_ (mup M1 p cg_)
def nG(h:e2_):ME X own me! (Ht fs):=
 eR nG! λZ G H Q ρ M R st e k=>⟨G,ρ,M,_,st,e,λds M1 vs G1 H1 r1 x1 m1 q1=>⟨by rw[<-aH q1];exact fB r1.1,λp hp=>
  k _ _ _ _ _ (r1.2 p (m1.nocell hp)) (x1.trans (.laid x1.sub hp) m1) (m1.laid hp x1.sub ⟨vs,bK,q1⟩) Aj.fn⟩⟩
def Jv(M:Mh)(d:D):Option (Addr×List D):=match d with
 |.fn p=>match M p with|some (.lst xs)=>some (p,xs)|_=>none
 |_=>none
def kT(m:bx_)(r:bR!)(e:Jv M d=some q):d=.fn q.1/\v=.ref q.1/\M q.1=some (.lst q.2)/\∃vs,H q.1=some ch_/\Af KF G q.2 vs:=by
 cases d<;>first|(cases e;done)|skip
 show"#H";simp only[Jv]at e;show"!6"
 .rename_i xs hM;cases e;exact⟨rfl,rfl,hM,(m.cell p _ hM).2⟩
 .cases e
def Dl(M:Mh)(d:D):Option (Addr×List ao_×Nat):=match d with
 |.fn p=>match M p with|some (.dct σ ep)=>some oY_|_=>none
 |_=>none
def bZ(r:bR!)(e:Dl M d=some q):d=.fn q.1/\v=.ref q.1/\M q.1=some oZ!:=by
 cases d<;>first|(cases e;done)|skip
 show"#H";simp only[Dl]at e;show"!6"
 .rename_i xs ep hM;cases e;exact⟨rfl,rfl,hM⟩
 .cases e
def Hi(fo fa:WE):WE:=λρ M R=>fo ρ M λd M1=>Du oZ_ λ_=>fa ρ M1 λv M2=>Du o0! λq=>o0_<big/\R .non AN!
def nI(ho:cq!)(ha:ag!)(hst:jg!:=by rfl)(iy:((og_).all cH!&&(cH_).all cI!
   &&decide oh!)=true:=by rfl) (iz:es!:=by rfl)
  (iu:attributeBase o "append" X.env cz_=eval o X.env:=by rfl) (ja:gu!:=by rfl):ME X own (.Call (.Attribute o "append" bf) [a] [] ak) (Hi fo fa):=
 eR (a0z NY PySem.F.slot_list_append PySem.F.type_list_append vV ho.ok AN_ iu iy iz hst ja) λZ G H Q ρ M R st e k=>
  ⟨G,ρ,M,_,st,e,λd M1 v G1 H1 r1 x1 m1 q1=>by
   obtain⟨c1,e1,r1⟩:=cC r1;obtain⟨rfl,rfl,_,ui,hH,_⟩:=kT m1 q1 e1;refine AO_;obtain⟨⟨p2,UM⟩,e2,r2⟩:=cC r2;obtain⟨z1,z2,z3,vs,Y,h2⟩:=kT m2 a4_ e2;cases z2;refine⟨_,vs,u,rfl,rfl,Y,by rw[<-aH h2];exact HY r2.1 (cV u!),?_⟩;exact k _ _ _ _ _ r2.2 AP! (m2.write z3 ⟨_,bK,cS h2 (Af.cons q2 Af.nil)⟩) Aj.non⟩
def jN{q:Addr×List ao_×Nat}(I:a_)(m:bh_)(sub:B!)(e:M q.1=some oZ!):
  s.TypeIs (.ref q.1) "dict"/\∀b,Value.ref q.1=.ref b->∃ob,s.heap.get? b=some ob/\ob.dict=none:=by
 obtain⟨es,_,_,h3,_⟩:=eC I m sub e;refine⟨e3_,λb z=>?_⟩;cases z;obtain⟨o,h,hc,_⟩:=h3;exact⟨o,h,hc.2.1⟩
def ME.run(h:a4!)(I:a_)(st:Ag!)(hf:gP_)
  (k:∀d M' v G' H' u s',R d M'->XM M G H M' G' H'->MR X.prog X.w X.K M' G' H'->Aj X.K G' d v->Inv X h1 Z H' s'->Be v u->Q u s'):wpAny e! X.A dZ_ Q X.xe s:=
 cW (h.ok h1 s Z H (λv H'=>∃d M' G',R d M'/\XM M G H M' G' H'/\MR X.prog X.w X.K M' G' H'/\Aj X.K G' d v) I ⟨G,ρ,M,R,st,hf,λd M' v G' H' r x m q=>⟨d,M',G',r,x,m,q⟩⟩) λu s' ⟨v,H',I',rv,d,M',G',r,x,m,q⟩=>k d M' v G' H' u s' r x m q I' rv
def Ma(fo fa:WE):WE:=λρ M R=>fo ρ M λd M1=>Du gV! λ_=>fa ρ M1 λy M2=>Du (Dl M2 d) λq=>Du e5_ λ_=>R ((o1!).getD .non) M2
def b4k(hu:ab!)(ho:cq!)(ha:ag!)(m:M1 X o "get" bf a ak):ME X own (.Call AP_ [a] [] ak) (Ma fo fa):=⟨by
 rintro h1 s Z H Q I ⟨G,ρ,M,R,st,e,k⟩;refine QF m.base m.few m.line NZ OJ PySem.F.type_dict_get kc!;obtain⟨c1,e1,r1⟩:=cC r1;obtain⟨rfl,rfl,hM⟩:=bZ q1 e1;cases rx;obtain⟨t1,t2⟩:=jN I1 m1 x1.sub hM;refine kc_;rw[m.trees];refine NH rfl AQ!;obtain⟨⟨p2,yz,gg⟩,e2,r2⟩:=cC r2;obtain⟨kk,e3,r2⟩:=cC r2;obtain⟨z1,z2,gw⟩:=bZ a4_ e2;cases z1;exact c1d (A:=X.A) a! I2 m2 x2.sub gw AQ_ e3 λov s' I' ⟨v',r',az⟩=>⟨v',H2,I',az,k _ M2 v' G2 H2 r2 bh! m2 r'⟩⟩
def Hm(fo fa fb:WE):WE:=λρ M R=>fo ρ M λd M1=>Du gV! λ_=>fa ρ M1 λy M2=>fb ρ M2 λz M3=>Du (Dl M3 d) λq=>Du e5_ λ_=>R ((o1!).getD z) M3
def nH(hu:ab!)(ho:cq!)(ha:ag!)(hb:by!)(m:M2 X o "get" bf a b ak):ME X own (.Call AP_ aJ! [] ak) AR!:=⟨by
 rintro h1 s Z H Q I ⟨G,ρ,M,R,st,e,k⟩;refine QF m.base m.few m.line NZ OJ PySem.F.type_dict_get kc!;obtain⟨c1,e1,r1⟩:=cC r1;obtain⟨rfl,rfl,hM⟩:=bZ q1 e1;cases rx;obtain⟨t1,t2⟩:=jN I1 m1 x1.sub hM;refine kc_;rw[m.trees];refine NH rfl (MU (KQ (ha.run I1 e7! r1 λy M2 yv G2 H2 iv s2 r2 x2 m2 q2 I2 ry=>
  KQ AS!)))
 obtain⟨⟨p2,yz,gg⟩,e2,r3⟩:=cC r3;obtain⟨kk,e3,r3⟩:=cC r3;obtain⟨z1,z2,gw⟩:=bZ AS_ e2;cases z1;exact c1c (A:=X.A) a! I3 m3 x3.sub gw AT_ e3 AU! λov s' I' ⟨v',r',az⟩=>⟨v',H3,I',az,k _ M3 v' G3 H3 r3 o1_ m3 r'⟩⟩
def Fv(fo fa fb:WE):WE:=λρ M R=>fo ρ M λd M1=>Du gV! λ_=>fa ρ M1 λy M2=>fb ρ M2 λz M3=>Du (Dl M3 d) λq=>Du e5_ λ_=>q.2.1.length<big/\
 match kget q.2.1 y with
 |some v=>R v M3
 |none=>R z (mup M3 q.1 (.dct (Bq q.2.1 y z) (q.2.2+1)))
def vW(hu:ab!)(ho:cq!)(ha:ag!)(hb:by!)(m:M2 X o "setdefault" bf a b ak):ME X own (.Call (.Attribute o "setdefault" bf) aJ! [] ak) (Fv fo fa fb):=⟨by
 rintro h1 s Z H Q I ⟨G,ρ,M,R,st,e,k⟩;refine QF m.base m.few m.line NZ RO PySem.F.type_dict_setdefault kc!;obtain⟨c1,e1,r1⟩:=cC r1;obtain⟨rfl,rfl,hM⟩:=bZ q1 e1;cases rx;obtain⟨t1,t2⟩:=jN I1 m1 x1.sub hM;refine kc_;rw[m.trees];refine NH rfl (MU (KQ (ha.run I1 e7! r1 λy M2 yv G2 H2 iv s2 r2 x2 m2 q2 I2 ry=>
  KQ AS!)))
 obtain⟨⟨p2,yz,gg⟩,e2,r3⟩:=cC r3;obtain⟨kk,e3,hl,r3⟩:=cC r3;obtain⟨z1,z2,gw⟩:=bZ AS_ e2;cases z1;have l8:=(bh!).trans x3 m2;refine uR (A:=X.A) a! I3 m3 x3.sub gw AT_ e3 AU! hl (λw ov s' hw I' ⟨v',r',az⟩=>?_) λhn a7 s' I' c'=>?_
 .dsimp only at r3;rw[hw]at r3;exact⟨v',H3,I',az,k _ M3 v' G3 H3 r3 l8 m3 r'⟩
 .dsimp only at r3;rw[hn]at r3;exact⟨zv,_,I',rz,k _ _ zv G3 _ r3 (l8.trans (.write m3 x3.sub gw) m3) (m3.write gw c') q3⟩⟩
def Qq(fo fa:WE):WE:=λρ M R=>fo ρ M λd M1=>Du gV! λ_=>fa ρ M1 λy M2=>Du (Dl M2 d) λq=>Du e5_ λ_=>Du o1! λv=>R v (mup M2 q.1 (.dct (Gc q.2.1 y) (q.2.2+1)))
def b4i(hu:ab!)(ho:cq!)(ha:ag!)(m:M1 X o "pop" bf a ak):ME X own (.Call (.Attribute o "pop" bf) [a] [] ak) (Qq fo fa):=⟨by
 rintro h1 s Z H Q I ⟨G,ρ,M,R,st,e,k⟩;refine QF m.base m.few m.line NZ PySem.F.slot_dict_pop PySem.F.type_dict_pop kc!;obtain⟨c1,e1,r1⟩:=cC r1;obtain⟨rfl,rfl,hM⟩:=bZ q1 e1;cases rx;obtain⟨t1,t2⟩:=jN I1 m1 x1.sub hM;refine kc_;rw[m.trees];refine NH rfl AQ!;obtain⟨⟨p2,yz,gg⟩,e2,r2⟩:=cC r2;obtain⟨kk,e3,r2⟩:=cC r2;obtain⟨w,e4,r2⟩:=cC r2;obtain⟨z1,z2,gw⟩:=bZ a4_ e2;cases z1;exact c6d (A:=X.A) a! I2 m2 x2.sub gw AQ_ e3 e4 λa7 ov s' I' c' ⟨v',r',az⟩=>⟨v',_,I',az,k _ _ v' G2 _ r2 ((bh!).trans (.write m2 x2.sub gw) m2) (m2.write gw c') r'⟩⟩
def Hh:WE:=λρ M R=>∀p,M p=none->R z_ cq_
def gF:ME X own (.Dict [] [] pos) Hh:=⟨by
 rintro h1 s Z H Q I ⟨G,ρ,M,R,st,e,k⟩;have hp:H g_=none:=I.fresh;have D0:Lz kd! s.heap.objs.size [] 0:=o2_;refine wpAny_Dict_empty ⟨dp_,upd H s.heap.objs.size AV_,o3_,rfl,?_⟩
 .show"!U"
 .exact k _ _ _ G _ (e _ (st.mr.nocell hp)) (.laid st.or.sub hp) (st.mr.laid hp st.or.sub o4!) Aj.fn⟩
end
abbrev WP:=Ab->Mh->(List ao_->Mh->Prop)->Prop
def Yg(KF:zr!)(G:Hp):List ao_->List o4_->Prop:=Paired λp q=>Bz KF G p.1 q.1/\Bz KF G p.2 q.2
structure MP(X:Cx)(own:l!)(pos:Pos)(keys:List (Option Expr))(kg:cx_)(f:WP):Prop where
 ok:∀(h1:r!) (s:yM!) (Z:St) (G H:Hp) (ρ:Ab) (M:Mh) (R:AW!) (Q:List o4_->Shared->Prop),Inv X h1 Z H s->Qn X.prog X.w X.K own G H Z ρ M->f ρ M R->
  (∀σ M' G' H' us s',R σ M'->XM M G H M' G' H'->MR X.prog X.w X.K M' G' H'->Yg X.K G' σ us->Inv X h1 Z H' s'->Q us s')->wpAny e! X.A (evalPairs (pairTrees keys kg X.env pos)) Q X.xe s
section
def Pf:WP:=λ_ M R=>R [] M
def Hl(fa fb:WE)(fp:WP):WP:=λρ M R=>fa ρ M λx M1=>fb ρ M1 λy M2=>fp ρ M2 λσ M3=>R ((x,y)::σ) M3
def xY:MP X own pos [] [] Pf:=⟨λh1 s Z G H ρ M R Q I st e k=>pairTrees_nil_walk (k [] M G H [] s e jY_ st.mr .nil I)⟩
def lB(ha:ag!)(hb:by!)(hp:AX!):MP X own pos (some a::keys) (b::kg) (Hl fa fb fp):=⟨λh1 s Z G H ρ M R Q I st e k=>
 pairTrees_cons_walk (ha.run I st e λx M1 v G1 H1 u s1 r1 x1 m1 q1 I1 ru=>hb.run I1 e7! r1 λy M2 v2 G2 H2 u2 s2 r2 x2 m2 q2 I2 YC=>
  hp.ok h1 s2 Z G2 H2 ρ M2 _ _ I2 AR_ r2 λσ M3 G3 H3 us s3 r3 x3 m3 q3 I3=>
   k _ M3 G3 H3 _ s3 r3 o1_ m3 (.cons ⟨⟨v,(a4_).mono x3.g,ru⟩,⟨v2,AT!,YC⟩⟩ q3) I3)⟩
def kN:∀{l:p_} {d x:D},d∉l.map c_->Bq l d x=l++kd_
 |[],_,_,_=>rfl
 |(y,z)::l,d,x,h=>by
  rw[HD,GT,OV]at h;unfold Bq;rw[ke!,kN h.2];rfl
def nM:∀{l:p_} {d:D},d∉l.map c_->kget l d=none
 |[],_,_=>rfl
 |(y,z)::l,d,h=>by
  rw[HD,GT,OV]at h;unfold kget;rw[ke!,nM h.2]
def uZ(hu:ao!):∀{σ:p_} {us:List o4_} {acc:p_} {H:Hp} {s:yM!} {M:Mh} {n:Nat} {Q:PUnit->Shared->Prop},Yg X.K G σ us->Inv X h1 Z H s->MR X.prog X.w X.K M G H->Ar G H->
  M c=some (.dct acc n)->gV_+ap!<=1000->(∀p∈σ,(De p.1).isSome=true)->((acc++σ).map c_).Nodup->
  (∀H' s',Inv X h1 Z H' s'->XM M G H AY_ G H'->MR X.prog X.w X.K AY_ G H'->Q PUnit.unit s')->
  wpAny e! A (forIn us PUnit.unit λ(x:Value×Value) (_:PUnit)=>(do dictSet c x.1 x.2;pure (ForInStep.yield PUnit.unit):Sem (ForInStep PUnit))) Q E s
 |_,_,acc,H,s,M,n,Q,.nil,I,m,sub,hM,hl,hk,nd,k=>by
  rw[OG];have hc:mup M c (.dct (acc++[]) (n+0))=M:=by
   show"#7";split
   .rename_i e;rw[e,IB,hM];rfl
   .rfl
  have k:=k H s I;rw[QH,hc]at k;exact GP (k (.refl sub) m)
 |(d,x)::σ,(u,v)::us,acc,H,s,M,n,Q,.cons r t,I,m,sub,hM,hl,hk,nd,k=>by
  rw[LQ];obtain⟨kk,hd⟩:=PP.mp (hk _ GR);have qt:d∉acc.map c_:=λz=>by
   rw[HZ,IM]at nd;exact nd.2.2 d z d d_ rfl
  simp only[HJ]at hl;refine GM (GM (a5n hu I m sub hM r.1 hd r.2 (HY a! (show 1001<=big by decide)) λa7 s' I' c'=>GP ?_));have rj:Kr acc d n=n+1:=by unfold Kr;rw[nM qt];simp
  rw[rj,kN qt]at c';rw[rj]at I';have m':=m.write hM c';have YD:Ar G (upd H c (dE c a7 cT_)):=(XM.write (c:=.dct (acc++kd_) cT_) m sub hM).sub;refine uZ hu t I' m' YD mup_same A1! (λp hp=>hk p iN_) (by rw[IY];exact nd) λH2 s2 I2 x2 m2=>?_;have hc:mup (mup M c (.dct (acc++kd_) cT_)) c (.dct (acc++kd_++σ) (n+1+ap!))=mup M c (.dct (acc++(d,x)::σ) (n+((d,x)::σ).length)):=by
   show"#7";split
   .rw[IY,HJ];simp only[List.singleton_append];rw[show n+1+σ.length=n+(σ.length+1)by omega]
   .rfl
  rw[hc]at x2 m2;exact k H2 s2 I2 ((XM.write m sub hM).trans x2 m') m2
def Qr(fp:WP):WE:=λρ M R=>∀p,M p=none->fp ρ cq_ λσ M1=>M1 p=some c3_/\ap!<=1000/\(∀q∈σ,(De q.1).isSome=true)/\(dH!).Nodup/\R z_ (mup M1 p (.dct σ ap!))
def qZ(hu:ab!)(hp:AX!)(gq:keys.all (·.isSome)=true:=by rfl)(hl:keys.length=kg.length:=by rfl)(h0:keys≠[]:=by simp)(h15:keys.length<=15:=by decide):ME X own (.Dict keys kg pos) (Qr fp):=⟨by
 rintro h1 s Z H Q I ⟨G,ρ,M,R,st,e,k⟩;have hn:=pairTrees_length keys kg X.env pos gq hl;have ju:pairTrees keys kg X.env pos≠[]:=λz=>by rw[z]at hn;exact h0 (OA.mp hn.symm)
 rw[arm_eval_Dict,zip_pairTrees keys kg X.env pos gq hl,dictDisplay_pairs _ ju a!];unfold subDict;have hf:H g_=none:=I.fresh;have D0:Lz kd! s.heap.objs.size [] 0:=o2_;have I1:Inv X h1 Z c4! {s with heap:=s.heap.push {cls:=.type "dict",data:=.dict #[]}}:=by
  refine o3_;show"!U"
 have x0:XM M G H gW! G c4!:=.laid st.or.sub hf;have m0:MR X.prog X.w X.K gW! G c4!:=st.mr.laid hf st.or.sub o4!;refine GM (QM (GM (GM (wpAny_alloc (GM (IR ?_))))));rw[by_];refine GM (hp.ok h1 _ Z G _ ρ _ _ _ I1 (st.grow x0 m0) (e _ (st.mr.nocell hf)) λσ M1 G1 H1 us s1 r1 x1 m1 q1 I2=>?_);obtain⟨hM1,ay,hk,nd,r1⟩:=r1;refine IR (GM (uZ (A:=X.A) (acc:=[]) a! q1 I2 m1 x1.sub hM1 (by simpa using ay) hk nd λH2 s2 I3 x2 m2=>GP (GP (GP ⟨dp_,H2,I3,rfl,?_⟩))));have UN:=(x0.trans x1 m0).trans x2 m1;simp only[JY,RL]at UN m2;exact k _ _ _ G1 H2 r1 UN m2 Aj.fn⟩
end
abbrev WS:=Ab->Mh->(Fl->Mh->Prop)->Prop
structure Gm(P:yL!)(w:yK!)(KF:zr!)(own:l!)(M0:Mh)(G0 F0:Hp)(M:Mh)(G H:Hp)(Z:St)(ρ:Ab):Prop where
 st:Qn P w KF own G H Z ρ M
 x:XM M0 G0 F0 M G H
 fr:∀i∈own,∀p,Z[i]?=some ci!->F0 p=none
inductive Zl(P:yL!)(w:yK!)(KF:zr!)(M0:Mh)(G0 F0:Hp)(own cu:l!)(f:WS)(E:Qo)(Z:St)(H:Hp):Prop
 |mk (G:Hp) (ρ:Ab) (M:Mh) (R:j!) (st:bz!) (e:gP_) (a:∀ρ' M' G' ae H',R gW_ M'->Gm P w KF cu M0 G0 F0 M' G' H' ae ρ'->E.nx ae H') (b:∀d M' v G' H',R af! M'->XM M0 G0 F0 M' G' H'->MR P w KF M' G' H'->Aj KF G' d v->E.rt v H'):Zl P w KF M0 G0 F0 own cu f E Z H
structure MS(X:Cx)(own cu:l!)(st:Stmt)(f:WS):Prop where
 ok:∀M0 G0 F0,PS X st A2!
structure Ry(X:Cx)(own cu:l!)(st:fy_)(f:WS):Prop where
 ok:∀M0 G0 F0,Lx X st A2!
section
variable{M0 M M':Mh}
def Gm.grow(s:bz!)(x:jW!)(m:z5_):Gm P w KF own M0 G0 F0 M' G' H' Z ρ:=⟨s.st.grow x m,s.x.trans x s.st.mr,s.fr⟩
def Gm.set(s:bz!)(hi:aC!)(r:bR!):Gm P w KF own M0 G0 F0 M G H dY! bs!:=by
 have ne:∀j∈own,i≠j:=λj hj z=>hi (z▸hj);refine⟨⟨s.st.or.set hi r,s.st.mr,A2_⟩,s.x,A2_⟩
 .rw[A3!]at e;exact s.st.dj j hj p e
 .rw[A3!]at e;exact s.fr j hj p e
def Dv(own:l!)(Z:St)(H:Hp):Hp:=λb=>if b∈Hv own Z then none else H b
def Gm.sr(s:bz!):SR KF own G ke_ G H Z ρ:=by
 refine⟨s.st.or,⟨eF!,iZ!,s.st.or.sub,cS_⟩,xS_⟩
 .unfold Dv at e;show"!6"
  .cases e
  .exact e
 .unfold Dv;rw[HC (a0l hi e)]
def Gm.root(s:bz!)(h:b∈Hv own Z):M b=none/\F0 b=none:=by obtain⟨i,hi,q⟩:=lC h;exact⟨s.st.dj i hi b q,s.fr i hi b q⟩
def Gm.noF(s:bz!)(h:Dv own Z H b=none):F0 b=none:=by
 unfold Dv at h;split at h
 .rename_i hb;exact(kf!).2
 .cases hM:M0 b with
  |none=>exact s.x.free hM h
  |some c=>exact absurd h (s.st.mr.has (s.x.cells b z3!))
def Gm.cellF(s:bz!)(h:M b=some c):Dv own Z H b=H b/\H b≠none:=by refine⟨?_,s.st.mr.has (by rw[h];simp)⟩;unfold Dv;rw[HA (λhb=>by rw[(kf!).1]at h;cases h)]
def Gm.mr'(s:bz!)(x:A4_):MR P w KF M G' H':=⟨λa c e=>by
 obtain⟨Y,h2⟩:=s.st.mr.cell a c e;obtain⟨e1,e2⟩:=s.cellF e;refine z5!
 .cases q:G' a with
  |none=>rfl
  |some o=>
   rcases x.new a ce! with z|z
   .exact absurd Y z
   .rw[e1]at z;exact absurd z e2
 .cases q:H a with
  |none=>exact absurd q e2
  |some o=>exact x.h a o (e1.trans q)⟩
def Gm.x'(s:bz!)(x:A4_):XM M0 G0 F0 M G' H':=by
 refine⟨s.x.g.trans x.g,x.sub,aY_,A5!,s.x.dom,s.x.cells⟩
 .obtain z|z:=x.new b h
  .exact s.x.new b z
  .exact o5_
 .have Y:=s.x.keep b o e hb;refine x.h b o ?_;unfold Dv;rw[A6!];exact Y
def Gm.after(s:bz!)(r:SR KF cu G ke_ G' H' ae ρ'):Gm P w KF cu M0 G0 F0 M G' H' ae ρ':=
 ⟨⟨r.or,s.mr' r.ext,λi hi p e=>by
  cases q:M p with
  |none=>rfl
  |some c=>
   obtain⟨e1,e2⟩:=s.cellF q;have:=r.fr i hi p e;rw[e1]at this;exact absurd this e2⟩,s.x' r.ext,λi hi p e=>s.noF (r.fr i hi p e)⟩
end
section
variable{st:Stmt}{rest body:List Stmt}{pos p2:Pos}
def nB(h:hM!)(hw:∀M0 G0 F0 E Z G H ρ M R,Gm X.prog X.w X.K own M0 G0 F0 M G H Z ρ->q1 ρ M R->
  (∀ρ' M' G' ae H',R gW_ M'->Gm X.prog X.w X.K own1 M0 G0 F0 M' G' H' ae ρ'->E.nx ae H')->(∀d M' v G' H',R af! M'->XM M0 G0 F0 M' G' H'->MR X.prog X.w X.K M' G' H'->Aj X.K G' d v->E.rt v H')->t E Z H):MS X own own1 st q1:=
 ⟨λM0 G0 F0 h1 s Z H E I ⟨G,ρ,M,R,sr,e,k1,k2⟩=>h h1 s Z H E I (hw M0 G0 F0 E Z G H ρ M R sr e k1 k2)⟩
def EV(q:bg!):WS:=λρ M R=>Du (q ρ) λr=>R r M
def c9l(h:DS X own own1 st q):MS X own own1 st (EV q):=⟨by
 rintro M0 G0 F0 h1 s Z H E I ⟨G,ρ,M,R,sr,e,k1,k2⟩;obtain⟨r,e1,e2⟩:=cC e;refine h.ok G ke_ h1 s Z H E I ⟨G,ρ,r,sr.sr,e1,?_⟩;cases r with
 |nx ρ'=>exact λG' ae H' cz=>k1 ρ' M G' ae H' e2 (sr.after cz)
 |rt d=>exact λv G' H' x r=>k2 d M v G' H' e2 (sr.x' x) (sr.mr' x) r⟩
def Bm:WS:=λρ M R=>R Z_ M
def Ad(q1 q2:WS):WS:=λρ M R=>q1 ρ M λr M1=>match r with|.nx aj=>q2 aj M1 R|.rt d=>R af! M1
def bV:Ry X own own [] Bm:=⟨λM0 G0 F0 h1 s Z H E I ⟨G,ρ,M,R,sr,e,k1,k2⟩=>a6m h1 s Z H E I (k1 ρ M G Z H e sr)⟩
def aE(Y:o6!)(h2:Ry X own1 jp rest q2):Ry X own jp hM_ (Ad q1 q2):=⟨λM0 G0 F0 h1 s Z H E I ⟨G,ρ,M,R,sr,e,k1,k2⟩=>
 sF o6_ A7! h1 s Z H E I A7_⟩
def aI(Y:o6!):Ry X own own1 [st] q1:=⟨λM0 G0 F0=>eV o6_⟩
def Gm.free{M0 M:Mh}(s:bz!):Gm P w KF [] M0 G0 F0 M eG! H Z ρ:=by
 have o:=s.st.or.full;have sG:Ar G eG!:=λb u e=>by
  unfold Ja;split
  .exact s.st.or.sub b u e
  .exact e
 refine⟨⟨o,⟨λa c e=>?_⟩,an_⟩,⟨s.x.g.trans sG,o.sub,aY_,s.x.keep,s.x.dom,s.x.cells⟩,an_⟩
 .obtain⟨Y,h2⟩:=s.st.mr.cell a c e;refine⟨?_,h2.mono sG rfl⟩;unfold Ja;rw[HA (λhb=>by rw[(kf!).1]at e;cases e)];exact Y
 .unfold Ja at h;split at h
  .rename_i hb;exact .inr (kf!).2
  .exact s.x.new b h
def b4c(h:Ry X [] jp rest q1):Ry X own jp rest q1:=⟨λM0 G0 F0 h1 s Z H E I ⟨G,ρ,M,R,sr,e,k1,k2⟩=>h.ok M0 G0 F0 h1 s Z H E I ⟨_,ρ,M,R,sr.free,e,k1,k2⟩⟩
def Bg(f:WE):WS:=λρ M R=>f ρ M λd M1=>R af! M1
def bW(h:a4!):MS X own own1 ly_ (Bg f):=nB (b2m h.ok) λM0 G0 F0 E Z G H ρ M R sr e k1 k2=>
 ⟨G,ρ,M,_,sr.st,e,λd M' v G' H' r x m q=>k2 d M' v G' H' r (sr.x.trans x o7!) m q⟩
def Mp:WS:=λ_ M R=>R (.rt .non) M
def xX:MS X own own1 rC_ Mp:=nB b8g λM0 G0 F0 E Z G H ρ M R sr e k1 k2=>k2 _ M _ G H e sr.x sr.st.mr Aj.non
def Ai(i:Nat)(f:WE):WS:=λρ M R=>f ρ M λd M1=>R (.nx bs!) M1
def bA(hN:aH!)(hi:ac!)(hx:aS_)(h:a4!)(bx:aC!:=by decide)(hs:nY!:=by rfl)
  (hf:X.fn x=true\/X.env.scope.names.lookup x=some .local:=by first|exact .inl rfl|exact .inr rfl|assumption):MS X own own xG! kg!:=
 nB xH! λM0 G0 F0 E Z G H ρ M R sr e k1 k2=>⟨G,ρ,M,_,sr.st,e,A9_⟩
def At(ft:WT)(q1 q2:WS):WS:=λρ M R=>ft ρ M λb M1=>if b then q1 ρ M1 R else q2 ρ M1 R
def dM(hc:j1_)(Y:Ry X own own1 b1 q1)(h2:Ry X own own1 b2 q2):MS X own own1 nY_ Ba!:=⟨by
 rintro M0 G0 F0 h1 s Z H E I ⟨G,ρ,M,R,sr,e,k1,k2⟩;refine b2o hc.ok o6_ A7! h1 s Z H E I Ba_;cases b with
 |true=>exact jS kg_
 |false=>exact jT kg_⟩
def Bb(f:WE):WS:=λρ M R=>f ρ M λ_ M1=>R Z_ M1
def cK(h:a4!)(hs:lx_:=by rfl):MS X own own ly! (Bb f):=
 nB (qN h.ok hs) λM0 G0 F0 E Z G H ρ M R sr e k1 k2=>⟨G,ρ,M,_,sr.st,e,Bb!⟩
def Ez(C:yz!)(x:Str)(fo f:WE):WS:=λρ M R=>f ρ M λy M1=>fo ρ M1 λd M2=>match d with
 |.fn p=>(match M2 p with|some (.obj C' fs)=>C'=C/\a8_<100/\R Z_ Bc_|_=>False)
 |_=>False
def fP(c:eb!)(n:Da X.K C x)(ho:cq!)(h:a4!)(hs:swapsWith e (some (.Attribute o x p2)) pos.line X.env=pure false:=by rfl):MS X own own (.Assign [.Attribute o x p2] e pos) (Ez C x fo f):=
 nB (c3q ho.ok h.ok hs) λM0 G0 F0 E Z G H ρ M R sr e k1 k2=>⟨G,ρ,M,_,sr.st,e,λy M1 v G1 H1 r1 x1 m1 q1=>⟨G1,ρ,M1,_,sr.st.grow x1 m1,r1,λd M2 u G2 H2 r2 x2 m2 q2=>by
  cases d<;>first|exact r2.elim|skip
  rename_i p;cases fH q2;dsimp only at r2;split at r2
  .rename_i C' fs hM;obtain⟨hC,hl,r2⟩:=r2;subst hC;obtain⟨_,dx,vs,h3,h4⟩:=m2.cell p _ hM;have ay:a8_=aU_:=MY h4;exact⟨p,_,dx,vs,rfl,h3,c,n,m_,k1 ρ _ G2 Z _ r2 ((Bd_).grow (.write m2 x2.sub hM) (m2.write hM ⟨dx,_,bK,c0h a4_ h4⟩))⟩
  .exact r2.elim⟩⟩
def Kx(M:Mh)(d y v:D):Option Mh:=match d with
 |.fn p=>match M p with
  |some (.dct σ ep)=>if(e5_).isSome&&decide (ap!<big)then some gY! else none
  |some (.lst xs)=>match y with
   |.int j=>(Eh xs.length j).map λk=>mup M p (.lst (xs.set k v))
   |_=>none
  |_=>none
 |_=>none
def AK(P:yL!)(w:yK!)(KF:zr!):V->V->V->Hp->lz!->Prop:=λo i v H Q=>∃(M:Mh) (G:Hp) (a:yz!) (σ:p_) (ep:Nat) (d x:D) (k:MK),o=.ref a/\Ar G H/\MR P w KF M G H/\M a=some e3!/\Aj KF G d i/\De d=some k/\Aj KF G x v/\ap!<big/\
 ∀a7,Fu P w KF G j3! a Ar_->Q j3!
def b7x(hu:ab!):Ui X (AK X.prog X.w X.K):=by intro h1 s Z H o i v ov iv u Q I ro ri rv h;obtain⟨M,G,a,σ,ep,d,x,k,rfl,sub,m,e,r,hk,rx,hl,q⟩:=h;cases ro;exact a5m (A:=X.A) a! I m sub e ⟨_,r,ri⟩ hk ⟨_,rx,rv⟩ hl λa7 s' I' c'=>⟨_,I',q a7 c'⟩
def b8e(h:Ui X r)(h':Ui X r'):Ui X (λo i v H Q=>r o i v H Q\/r' o i v H Q):=by
 intro h1 s Z H o i v ov iv u Q I ro ri rv q;obtain q|q:=q
 .exact h h1 s Z H o i v ov iv u Q I ro ri rv q
 .exact h' h1 s Z H o i v ov iv u Q I ro ri rv q
def Cg(fo fi f:WE):WS:=λρ M R=>f ρ M λv M1=>fo ρ M1 λd M2=>fi ρ M2 λy M3=>Du o8! λM4=>R Z_ M4
def eA(hu:ab!)(ho:cq!)(hi:ME X own i fi)(h:a4!)
  (ha:∀v,assign Bf! X.env v=(do
   let ov <-holding [v] cz_
   let iv <-holding [v,ov] rK!
   standAt p2
   holding d3_ lA_
   release d3_ []):=by intro _;rfl)
  (hs:swapsWithSole kh_ e pos.line X.env=pure false:=by rfl) (hw:swappedStores kh_ e X.env=pure none:=by rfl)
  (Y:(assignEach kh_ X.env).map X_=[assign Bf! X.env]:=by rfl):MS X own own (.Assign kh_ e pos) Bg!:=
 nB (b2p h.ok (b2u ho.ok hi.ok (b8e a0h (b7x hu)) ha) hs hw Y) λM0 G0 F0 E Z G H ρ M R sr e k1 k2=>⟨G,ρ,M,_,sr.st,e,λv M1 vv G1 H1 r1 x1 m1 q1=>⟨G1,ρ,M1,_,sr.st.grow x1 m1,r1,λd M2 dv G2 H2 r2 x2 m2 q2=>
  ⟨G2,ρ,M2,_,(sr.st.grow x1 m1).grow x2 m2,r2,λy M3 yv G3 H3 r3 x3 m3 q3=>by
   obtain⟨M4,e4,r4⟩:=cC r3;have rm:=(Bd_).grow x3 m3;have qd:=q2.mono x3.g;have qv:=(a4_).mono x3.g;unfold Kx at e4;split at e4
   .rename_i p;cases fH qd;split at e4
    .rename_i σ ep hM;split at e4
     .rename_i hc;rw[HQ,HS]at hc;cases e4;obtain⟨kk,hk⟩:=PP.mp hc.1;exact .inr ⟨M3,G3,p,σ,ep,y,v,kk,rfl,x3.sub,m3,hM,q3,hk,qv,hc.2,λa7 c'=>k1 ρ _ G3 Z _ r4 (rm.grow Bg_ (m3.write hM c'))⟩
     .cases e4
    .rename_i xs hM;split at e4
     .rename_i j;cases aX q3;obtain⟨n,e5,rfl⟩:=GX.mp e4;obtain⟨_,vs,h3,h4⟩:=m3.cell p _ hM;exact .inl ⟨p,vs,j,n,rfl,rfl,h3,by rw[<-aH h4];exact e5,k1 ρ _ G3 Z _ r4 (rm.grow Bg_ (m3.write hM ⟨_,bK,rZ qv n h4⟩))⟩
     .cases e4
    .cases e4
   .cases e4⟩⟩⟩
def Lc(i:Nat)(f:WE):WS:=λρ M R=>match ρ[i]? with
 |some (some (.int a))=>f ρ M λd M1=>(match d with|.int b=>R (.nx (ρ.set i (some (.int (a+b))))) M1|_=>False)
 |_=>False
def b4d(hN:aH!)(hi:ac!)(hx:aS_)(h:a4!)(bx:aC!:=by decide)
  (hf:X.fn x=true\/X.env.scope.names.lookup x=some .local:=by first|exact .inl rfl|exact .inr rfl|assumption):MS X own own (.AugAssign cR! .Add e pos) (Lc i f):=
 nB (c3r hN hi hx h.ok c5l hf) λM0 G0 F0 E Z G H ρ M R sr e k1 k2=>by
  unfold Lc at e;show"!6"
  .rename_i a pe;obtain⟨v,Y,h2⟩:=sr.st.or.at_ i _ pe bx;cases aX h2;refine⟨_,Y,G,ρ,M,_,sr.st,e,Bh_⟩;cases d<;>first|exact r.elim|skip
   cases aX q;exact⟨a,_,rfl,rfl,k1 _ M' G' _ H' r ((o7_).set bx Aj.int)⟩
  .exact e.elim
def Er(ft:WT)(q:WS):Nat->WS
 |0=>λ_ _ _=>False
 |n+1=>λρ M R=>ft ρ M λb M1=>if b then q ρ M1 (λr M2=>match r with|.nx bd=>Er ft q n bd M2 R|.rt d=>R af! M2)else R Z_ M1
def Sc(ft:WT)(q:WS):WS:=λρ M R=>∃n,Er ft q n ρ M R
def a1k(hp:d4!)(hc:j1_)(hb:Bi!):MS X own own rQ_ (Sc ft q1):=⟨by
 rintro M0 G0 F0 h1 s Z H E I ⟨G,ρ,M,R,sr,⟨n,e⟩,k1,k2⟩;refine b2l hp hc.ok (hb.ok M0 G0 F0) h1 s Z H E I ⟨λm ae H'=>∃G' ρ' M',Gm X.prog X.w X.K own M0 G0 F0 M' G' H' ae ρ'/\Er ft q1 m ρ' M' R,⟨n,G,ρ,M,sr,e⟩,?_⟩;rintro m ae H' ⟨G',ρ',M',b8,e'⟩;cases m with
 |zero=>exact e'.elim
 |succ m=>
  refine⟨G',ρ',M',_,b8.st,e',λb M1 G1 H1 r1 x1 m1=>?_⟩;cases b with
  |true=>exact jS ⟨λcm H2=>∃G2 bd M2,Gm X.prog X.w X.K own M0 G0 F0 M2 G2 H2 cm bd/\Er ft q1 m bd M2 R,λcm H2 h=>⟨m,OL m,h⟩,G1,ρ',M1,_,b8.grow x1 m1,r1,λbd M2 G2 cm H2 r2 uj=>⟨G2,bd,M2,uj,r2⟩,λd M2 v G2 H2 r2 x2 m2 q2=>k2 d M2 v G2 H2 r2 x2 m2 q2⟩
  |false=>exact jT (k1 ρ' M1 G1 ae H1 r1 (b8.grow x1 m1))⟩
end
def CQ(P:yL!)(w:yK!)(KF:zr!)(J:It)(ds:b!)(ck:dL!)(G1:Hp):Prop:=∀(i:Nat) (M':Mh) (G' H':Hp),Ar G1 G'->Ar G' H'->MR P w KF M' G' H'->ck M'->
 xr_/\xs!
abbrev WI:=Ab->Mh->(List D->(Mh->Prop)->Mh->Prop)->Prop
inductive EY(P:yL!)(w:yK!)(KF:zr!)(own:l!)(fi:WI)(Z:St)(H:Hp)(R:hS_):Prop
 |mk (G:Hp) (ρ:Ab) (M:Mh) (T:List D->(Mh->Prop)->Mh->Prop) (st:gP!) (e:fi ρ M T) (k:∀ds ck M1 J G1 H1,T ds ck M1->XM M G H M1 G1 H1->MR P w KF M1 G1 H1->CQ P w KF J ds ck G1->R J H1):EY P w KF own fi Z H R
structure MI(X:Cx)(own:l!)(tg iter:Expr)(fi:WI):Prop where
 ok:PI X tg iter (EY X.prog X.w X.K own fi)
section
variable{st:Stmt}{rest body:List Stmt}{pos p2:Pos}
def c2e(h:xs_)(hw:∀Z G H R ρ M T,Qn X.prog X.w X.K own G H Z ρ M->fi ρ M T->(∀ds ck M1 J G1 H1,T ds ck M1->XM M G H M1 G1 H1->MR X.prog X.w X.K M1 G1 H1->CQ X.prog X.w X.K J ds ck G1->R J H1)->wi Z H R):MI X own tg e fi:=
 ⟨λh1 s Z H R I ⟨G,ρ,M,T,st,e,k⟩=>h h1 s Z H R I (hw Z G H R ρ M T st e k)⟩
def Hc(di:aC_):WI:=λρ M T=>Du (di ρ) λds=>T ds W! M
def Xn.m(h:xx_):CQ P w KF J ds W! G1:=λi M' G' H' s1 s2 _ _=>h i G' H' s1 s2
def lS(h:DI X own tg e di):MI X own tg e (Hc di):=c2e h.ok λZ G H R ρ M T st e k=>by
 obtain⟨ds,e1,e2⟩:=cC e;exact⟨G,ρ,ds,st.or,e1,λJ G1 H1 x dr=>k ds _ M J G1 H1 e2 oO_ oP! dr.m⟩
def Ci(f:WE):WI:=λρ M T=>f ρ M λd M1=>match d with
 |.lst xs=>T xs W! M1
 |.fn p=>(match M1 p with|some (.lst xs)=>T xs (λM=>M p=some A_) M1|_=>False)
 |_=>False
def fQ(h:ag!):MI X own tg a (Ci fa):=c2e (a6o h.ok) λZ G H R ρ M T st e k=>⟨G,ρ,M,_,st,e,λd M1 v G1 H1 r1 x1 m1 q1=>by
 cases d<;>first|exact r1.elim|skip
 .obtain⟨p,vs,rfl,q,rr⟩:=bJ q1;exact⟨p,rfl,⟨vs,x1.sub.seq q⟩,k _ _ M1 _ G1 H1 r1 x1 m1 (a1y q rr).m⟩
 .rename_i p;cases fH q1;dsimp only at r1;split at r1
  .rename_i xs hM;obtain⟨_,vs,Y,h2⟩:=m1.cell p _ hM;refine⟨p,rfl,⟨vs,kb!⟩,k _ _ M1 _ G1 H1 r1 x1 m1 λi M' G' H' s1 s2 m' ck=>?_⟩;obtain⟨_,gc,h3,h4⟩:=m'.cell p _ ck;have q':Ef X.K H' p gc:=Ef.of h3;refine⟨dA!,λhi=>⟨gc,q',by rw[<-aH h4,hi];exact HK _⟩⟩;obtain⟨v,g1,g2⟩:=gJ h4 hd;refine⟨⟨gc,v,q',g1⟩,je_⟩;obtain⟨e1,e2⟩:=hy;subst e1;have:=e2 gc q';rw[g1]at this;cases this;exact⟨G',jf!,g2⟩
  .exact r1.elim⟩
def El(bnd:aM_)(ck:dL!)(q:WS):List D->WS
 |[]=>λρ M R=>ck M/\R Z_ M
 |d::ds=>λρ M R=>ck M/\Du jh_ λaj=>q aj M λr M1=>match r with|.nx bd=>El bnd ck q ds bd M1 R|.rt d=>R af! M1
def Bs(fi:WI)(bnd:aM_)(q:WS):WS:=λρ M R=>fi ρ M λds ck M1=>El bnd ck q ds ρ M1 R
def CS(KF:zr!)(own:l!)(g:TG)(bnd:aM_):Prop:=∀{P:yL!} {w:yK!} {x:V} {d:D} {Z:St} {M0 M:Mh} {G0 F0 G H:Hp} {ρ aj:Ab} {Q:hO_},Gm P w KF own M0 G0 F0 M G H Z ρ->Aj KF G d x->bnd d ρ=some aj->(∀bq,Gm P w KF own M0 G0 F0 M G H bq aj->Q bq H)->g x Z H Q
def cL(i:Nat)(hi:aC!:=by decide):CS KF own d3! (Bd i):=by intro P w x d Z M0 M G0 F0 G H ρ aj Q sr r e k;cases e;exact k _ (sr.set hi r)
def Tr(i j:Nat):D->Ab->Option Ab:=λd ρ=>match d with|.tup [x,y]=>some ((ρ.set i lB_).set j (some y))|_=>none
def b5p(i j:Nat)(hi:aC!:=by decide)(hj:j∉own:=by decide):CS KF own xx! (Tr i j):=by
 intro P w x d Z M0 M G0 F0 G H ρ aj Q sr r e k;unfold Tr at e;show"!6"
 .cases e;show"!Z";show"!7";exact⟨p,[v1,v2],rfl,bS sr.st.or.sub q,rfl,v1,[v2],rfl,v2,[],rfl,rfl,k _ ((sr.set hi r1).set hj r2)⟩
 .cases e
def Gm.base{M0 M1:Mh}(s:pb_):Gm P w KF own M1 G1 dL_ M1 G1 H1 Z ρ:=
 ⟨s.st,⟨Ar.refl _,s.st.or.sub,cS_,λb o e _=>s.sr.ext.h b o e,cS_,λb h=>h⟩,λi hi p e=>s.sr.fr i hi p e⟩
def Gm.unx{M0 M1 M':Mh}(s:pb_)(y:XM M1 G1 dL_ M' G' H'):XM M0 G0 F0 M' G' H':=by
 refine⟨s.x.g.trans y.g,y.sub,aY_,A5!,aY_,λb h=>y.cells b (s.x.cells b h)⟩
 .obtain z|z:=y.new b h
  .exact s.x.new b z
  .exact o5_
 .refine y.keep b o ?_ ?_
  .unfold Dv;rw[A6!];exact s.x.keep b o e hb
  .cases q:M1 b with
   |none=>rfl
   |some c=>
    rcases s.x.dom b ce! with z|z
    .exact absurd hb z
    .rw[e]at z;cases z
 .obtain z|z:=y.dom b h
  .exact s.x.dom b z
  .exact o5_
def Gm.unbase{M0 M1 M':Mh}(s:pb_)(s':Gm P w KF own1 M1 G1 dL_ M' G' H' ae ρ'):Gm P w KF own1 M0 G0 F0 M' G' H' ae ρ':=
 ⟨s'.st,s.unx s'.x,λi hi p e=>s.noF (s'.fr i hi p e)⟩
def eQ(hp:d4!)(hc:aq_)(al:kj!)(hg:hP!)(j8:Bk!)(hb:Bi!)
  (hs:b5_:=by intro _;rfl):MS X own own lN_ Bk_:=⟨by
 rintro M0 G0 F0 h1 s Z H E I ⟨G,ρ,M,R,sr,e,k1,k2⟩;have ic:Lx X body (λE Z H=>∃A B C,Zl X.prog X.w X.K A B C own own q1 E Z H):=λh1 s Z H E I ⟨A,B,C,h⟩=>hb.ok A B C h1 s Z H E I h;refine a3w hp hc al.ok hg ic hs h1 s Z H E I Bl!;have mq:=sr.grow x1 m1;refine⟨λn m ae H'=>n<=e_/\m=e_ - n/\∃G' ρ' M',Gm X.prog X.w X.K own M1 G1 dL_ M' G' H' ae ρ'/\El bnd ck q1 iX! ρ' M' R,
  Bl_,?_⟩
 rintro n m ae H' ⟨hn,rfl,G',ρ',M',b8,e3⟩;have c9:ck M':=by
  cases hd:ds.drop n with
  |nil=>rw[hd]at e3;exact e3.1
  |cons _ _=>rw[hd]at e3;exact e3.1
 show"!S"
 .right;have hd:ds[n]?=some ds[n]:=by simp[ai]
  rw[KA ai]at e3;obtain⟨_,e3⟩:=e3;show"!=";exact j8 uj r2 e4 λf7 rm=>⟨M1,G1,Dv own Z H1,G2,aj,M',_,rm,e3,Bn!,Bn_⟩
 .left;have f9:n=e_:=by omega
  refine jo_;rw[f9,ON]at e3;exact k1 ρ' M' G' ae H' e3.2 Bo!⟩
def Pl(bnd:aM_)(ck:dL!)(ft:WT)(fe:WE)(ρ:Ab):List D->Mh->z6_->Prop
 |[],M,R=>ck M/\R [] M
 |d::ds,M,R=>ck M/\Du jh_ λaj=>ft aj M λb M1=>if b then fe aj M1 λy M2=>Pl bnd ck ft fe ρ ds M2 λys M3=>R (y::ys) M3 else Pl bnd ck ft fe ρ ds M1 R
def Cd(nl:Nat)(ix:l!)(fi:WI)(bnd:aM_)(ft:WT)(fe:WE):WE:=λρ M R=>fi ρ M λds ck M1=>e_<=big/\Pl bnd ck ft fe nx_ ds M1 λys M2=>R aX_ M2
def a8b{M1:Mh}{Fin:cx!}
  (hb:e_<=big)(dr:CQ P w KF J ds ck G1)(hg:GD KF g bnd)(er:Qn P w KF [] G1 H1 yh oy M1)(e:Pl bnd ck ft fe oy ds M1 R)(k:∀jo ys M' G' H',R jo M'->XM M1 G1 H1 M' G' H'->MR P w KF M' G' H'->Af KF G' jo ys->jo.length<=e_->Fin ys H'):
  Ts J g (Xt P w KF [] ft) (Zw P w KF [] fe) Fin yh H1:=by
 refine⟨λi m ys ae H'=>i<=e_/\m=e_ - i/\∃G' M' ws,XM M1 G1 H1 M' G' H'/\Qn P w KF [] G' H' ae oy M'/\Af KF G' ws ys/\mb_<=i/\Pl bnd ck ft fe oy (ds.drop i) M' λr M2=>R (ws++r) M2,
  ⟨e_,IF _,rfl,G1,M1,[],.refl er.or.sub,er,Af.nil,IF _,e⟩,?_⟩
 rintro i m ys ae H' ⟨hi,rfl,G',M',ws,x,cz,ax,hw,e2⟩;refine xy!;have c9:ck M':=by
  cases hd:ds.drop i with
  |nil=>rw[hd]at e2;exact e2.1
  |cons _ _=>rw[hd]at e2;exact e2.1
 obtain⟨j5,j6⟩:=dr i M' G' H' x.g cz.or.sub cz.mr c9;by_cases ai:i<e_
 .right;have hd:ds[i]?=some ds[i]:=by simp[ai]
  rw[KA ai]at e2;obtain⟨_,e2⟩:=e2;obtain⟨aj,e1,e2⟩:=cC e2;obtain⟨go,yl⟩:=j5 _ hd;refine xy_;obtain⟨G2,x2,r2⟩:=yl v H2 hy;have c7:=cz.grow gU_ (cz.mr.ext x2);have YF:XM M1 G1 H1 M' G2 H2:=x.trans gU_ cz.mr;refine hg c7.or r2 e1 λbq ou ub=>⟨G2,aj,M',_,Bo_,e2,λb M3 G3 H3 r3 x3 m3=>?_⟩;have j7:=(show Qn P w KF [] G2 H2 bq aj M' from Bo_).grow x3 m3;have l8:=YF.trans x3 c7.mr;cases b with
  |true=>
   refine jS ⟨G3,aj,M3,_,j7,r3,λy M4 u G4 H4 r4 x4 m4 q4=>⟨e_ - S!,m_,ai,rfl,G4,M4,ws++[y],l8.trans x4 m3,⟨(j7.grow x4 m4).or.le ub,m4,an_⟩,?_,?_,?_⟩⟩
   .exact cS xA_ (Af.cons q4 Af.nil)
   .rw[HN,JK];omega
   .have e5:(λr M2=>R (ws++[y]++r) M2)=λr M2=>R (ws++y::r) M2:=by
     funext r M2;rw[IY];rfl
    rw[e5];exact r4
  |false=>
   exact jT ⟨e_ - S!,m_,ai,rfl,G3,M3,ws,l8,⟨j7.or.le ub,m3,an_⟩,xB!,m_,r3⟩
 .left;have f9:i=e_:=by omega
  refine jo_;rw[f9,ON]at e2;have this:R (ws++[]) M':=e2.2;rw[IB]at this;exact k ws ys M' G' H' this x cz.mr ax a!
def jE
  (cx:cM!)(cj:cM_)(j4:∀y∈bO!,y.2=.local->scope.names.lookup y.1=some .local)
  (g6:gf!)(cap:cL_)(hix:i1!)(calm:aq_)(al:kj!)
  (hg:gf_)(j8:nW!)(hi:Bq!)(he:Bq_)
  (hs:b5_:=by intro _;rfl):
  ME X own gc! Br!:=
 eR xC_ λZ G H Q ρ M R st e k=>⟨G,ρ,M,_,st,e,λds ck M1 J G1 H1 r1 x1 m1 dr=>by
  obtain⟨hb,r1⟩:=r1;have qu:=st.grow x1 m1;refine a8b hb dr j8 Br_ r1 λjo ys M' G' H' r x m q _ p hp=>?_;exact k _ M' _ _ _ r ((x1.trans x m1).trans (.ext gs_) m) (m.ext gs_) (cQ nX! q)⟩
def b4g:Nf X [] (Xt X.prog X.w X.K [] λρ M R=>R true M):=λh1 s Z H Q I ⟨G,ρ,M,R,st,e,k⟩=>a0w h1 s Z H Q I (k true M G H e jY_ st.mr)
def pT(h:MT X [] c ft):Nf X [c] Bp_:=a0v h.ok
abbrev WF:=List D->Mh->oN_->Prop
def Wx(P:yL!)(w:yK!)(KF:zr!)(n:Nat)(g:WF):Sp:=λvs H Q _=>aU_=n/\∃G ds M R,Ar G H/\MR P w KF M G H/\Af KF G ds vs/\g ds M R/\∀d M' v G' H',R d M'->XM M G H M' G' H'->MR P w KF M' G' H'->Aj KF G' d v->Q v H'
def Ou(P:yL!)(w:yK!)(KF:zr!)(mg:L!)(base:Heap)(k:Nat)(x:Str)(ps:D!)(g:WF):Prop:=
 ∃af fd,Em P w KF mg base Ng k af fd ps pc_/\Ec KF fd ps []/\mg x=some a0!/\W.keepIn KF a0!=true
nonrec def gl(g:aZ_):WF:=λds M R=>Du (g ds) λd=>R d M
def Ap(n:Nat)(g:WF)(fs:WA):WE:=λρ M R=>fs ρ M λds M1=>e_=n/\g ds M1 R
def bR(F:Ou X.prog X.w X.K X.mg X.base k x ps g)(hr:bc!)(hg:D_)(ha:e6!)
  (au:x!:=by decide)(he:T!:=by rfl)(ar:ar!:=by rfl):
  ME X own az! (Ap ps.length g fs):=by
 show"![";refine eR (qO Y hr hg h3 h4 h2 .nil vL ha.ok au he ar) λZ G H Q ρ M R st e' k=>⟨G,ρ,M,_,st,e',pd!⟩;show Wx X.prog X.w X.K ps.length g i7! H1 Q E0;rw[IB];exact⟨pd_,G1,ds,M1,R,x1.sub,m1,q1,r1.2,j0!⟩
def Et(P:yL!)(w:yK!)(KF:zr!)(mg:L!)(base:Heap)(k:Nat)(C:yz!)(m:Str)(ps:D!)(g:WF):Prop:=
 Rz KF C/\∃af fd,Vy KF C m af/\Em P w KF mg base Ng k af fd ps pc_/\Ec KF fd ps []
def Dh(C:yz!)(m:Str)(M:Mh)(d:D):Prop:=match d with
 |.fn p=>(match M p with|some (.obj C' fs)=>C'=C/\fs.lookup m=none|_=>False)
 |_=>False
def b5j(mr:bx_)(r:bR!)(h:kj_):∃p dx vs,d=.fn p/\v=.ref p/\H p=some z0_/\vs.lookup m=none:=by
 unfold Dh at h;split at h
 .show"#H";split at h
  .rename_i C' fs hM;obtain⟨rfl,hl⟩:=h;obtain⟨_,dx,vs,Y,h2⟩:=mr.cell p _ hM;exact⟨p,dx,vs,rfl,rfl,Y,b5r h2 hl⟩
  .exact h.elim
 .exact h.elim
def Az(C:yz!)(m:Str)(n:Nat)(g:WF)(fo:WE)(fs:WA):WE:=λρ M R=>fo ρ M λd M1=>Dh C m M1 d/\fs ρ M1 λds M2=>e_+1=n/\g cO_ M2 R
def cE(F:Et X.prog X.w X.K X.mg X.base k C m ps g)(hr:bc!)(ho:cq!)(ha:e6!)
  (hst:T!:=by rfl)(ar:ar!:=by rfl)
  (ht:eval ih! X.env=(do
   let ov <-eval o X.env
   standAt md_
   let(f,first) <-holding [ov] mc_
   callWith pos f first tm_ ia!):=by rfl):ME X own ih! (Az C m ps.length g fo fs):=by
 obtain⟨cl,af,fd,Y,h2,h3⟩:=F;refine eR (b8m (pl:=pl) ho.ok cl Y h2 hr h3 .nil vL ha.ok hst ar ht) λZ G H Q ρ M R st e' k=>⟨G,ρ,M,_,st,e',Bs_⟩;obtain⟨hi,r1⟩:=r1;obtain⟨p,dx,vs,rfl,rfl,hH,hl⟩:=b5j m1 q1 hi;refine⟨p,dx,vs,rfl,hH,hl,G1,ρ,M1,_,jZ_,r1,λds M2 us G2 H2 r2 x2 m2 q2=>?_⟩;show Wx X.prog X.w X.K ps.length g (.ref p::(us++[])) H2 Q E0;rw[IB];exact⟨by rw[HJ,<-aH q2];exact r2.1,G2,.fn p::ds,M2,R,x2.sub,m2,Af.cons Aj.fn q2,r2.2,λd M3 v G3 H3 r3 x3 m3 q3=>k d M3 v G3 H3 r3 o1_ m3 q3⟩
def Uk(P:yL!)(w:yK!)(KF:zr!)(mg:L!)(base:Heap)(k:Nat)(x:Str)(C:yz!)(ps:D!)(g:WF):Prop:=
 mg x=some H_/\∃af fd,Mk KF C af/\Em P w KF mg base Ng k af fd ps pc_/\Ec KF fd ps []
def Fx(C:yz!)(n:Nat)(g:WF)(fs:WA):WE:=λρ M R=>fs ρ M λds M1=>e_+1=n/\∀p,M1 p=none->g (.fn p::ds) (mup M1 p pe_) λd M2=>d=.non/\R z_ M2
def b4m{M1:Mh}(sub:Ar G1 H1)(m1:z2!)(hx:H1 x=none)(pi:H1 dx=none)(ne:dx≠x):
  XM M1 G1 H1 Bt_ G1 mg_/\MR P w KF Bt_ G1 mg_:=by
 have old:∀b o,H1 b=some o->upd tk! x mg! b=some o:=λb o e=>by rw[aW (cD e hx),aW (cD e pi)];exact e
 refine⟨⟨Ar.refl G1,λb o e=>old b o (sub b o e),cS_,λb o e _=>old b o e,aY_,aY_⟩,⟨λb q e=>?_⟩⟩
 .by_cases hb:b=x
  .subst hb;exact .inr hx
  .rw[a5!]at h;exact .inl h
 .by_cases hb:b=x
  .subst hb;rw[mup_same];simp
  .rw[a5!];exact h
 .by_cases hb:b=x
  .show"!~";exact⟨sub.free hx,dx,[],bK,.nil⟩
  .rw[a5!]at e;obtain⟨Y,h2⟩:=m1.cell b q e;refine⟨Y,h2.mono (Ar.refl G1) ?_⟩;cases hq:H1 b with
   |none=>exact absurd hq h2.has
   |some o=>exact old b o hq
def b9k(F:Bu!)(hr:fQ_)(hg:D_)(ha:e6!)
  (au:x!:=by decide)(he:T!:=by rfl)(ar:ar!:=by rfl):ME X own az! (Fx C ps.length g fs):=by
 obtain⟨hm,af,fd,Y,h2,h3⟩:=F;refine eR (b8n Y h2 hr hg hm h3 .nil vL ha.ok au he ar) λZ G H Q ρ M R st e' k=>⟨G,ρ,M,_,st,e',λds M1 vs G1 H1 r1 x1 m1 q1=>λy dx hy pi ne=>?_⟩;obtain⟨z1,z2⟩:=b4m (C:=C) x1.sub m1 hy pi ne;rw[IB];exact⟨by rw[HJ,<-aH q1];exact r1.1,G1,.fn y::ds,_,_,z1.sub,z2,Af.cons Aj.fn q1,r1.2 y (m1.nocell hy),λd M2 v G2 H2 r2 x2 m2 q2=>by
  obtain⟨rfl,r2⟩:=r2;exact⟨dY q2,k _ M2 _ G2 H2 r2 ((x1.trans z1 m1).trans x2 z2) m2 Aj.fn⟩⟩
def kJ(F:Bu!)(hr:fQ_)(hg:D_)
  (au:x!:=by decide):ME X own tr! (Fx C ps.length g Ac):=by
 obtain⟨hm,af,fd,Y,h2,h3⟩:=F;refine eR (b3b Y h2 hr hg hm h3 .nil vL au) λZ G H Q ρ M R st e' k=>λy dx hy pi ne=>?_;obtain⟨z1,z2⟩:=b4m (C:=C) st.or.sub st.mr hy pi ne;have r1:[].length+1=O!/\∀p,M p=none->g (D.fn p::[]) (mup M p pe_) λd M2=>d=.non/\R z_ M2:=e';exact⟨r1.1,G,[.fn y],_,_,z1.sub,z2,Af.cons Aj.fn Af.nil,r1.2 y (st.mr.nocell hy),λd M2 v G2 H2 r2 x2 m2 q2=>by
  obtain⟨rfl,r2⟩:=r2;exact⟨dY q2,k _ M2 _ G2 H2 r2 (z1.trans x2 z2) m2 Aj.fn⟩⟩
def Cj(N:D!)(n:Nat)(q:WS):WF:=λds M R=>e_=n/\q gx_ M λr M'=>match r with|.rt d=>R d M'|.nx _=>R .non M'
end
def rH{st:Stmt}
  (F:xV!)(S:cK!)
  (hb:∀(ah:yB!) (A:yA!) (outer:ai!) (s:yM!) (H:Hp) (E:XK),Ah k n5!->Ry (n5_).nox [] cu be! q):
  Em P w KF mg base Ng S_ af fd ps (Wx P w KF ps.length kk!):=by
 refine xW!;obtain⟨hl,G,ds,M,R,sub,m,r,e,kk⟩:=h;refine⟨_,(xW_).ok M G H,?_⟩;have er:=rS (N:=N) sub r;exact Bv_
section
def Lz.at(D:Bw!)(e:∀o,h.get? d=some o->h'.get? d=some o):Lz h' d es ep:=let⟨o,ho,r⟩:=D;⟨o,e o ho,r⟩
def b5h(hd:Bw_)(D:pg!)
  (h:Q ba! {s with heap:=s.heap.push {cls:=.type "dict_keyiterator",data:=.fields #[.ref d,.int 0 0,.int es.length 0,.int ep 0]}}):wpAny v! A (pyIter (.ref d)) Q E s:=by
 have hT:=D.typeIs;obtain⟨o,ho,hc,UO⟩:=id D;refine wpAny_pyIter_slot hT PySem.F.slot_dict_iter (IT PySem.F.slot_dict_iter hT PySem.F.entry_dict_iter ?_ (PySem.F.args_dict_iter_1 _));unfold Builtin.«dict.__iter__» Builtin.Dict.dictSlotNone;refine GM oU!;show wpAny v! A.in1 (Builtin.Dict.showsAll d>>=_) _ _ s;unfold Builtin.Dict.showsAll;rw[HA (by rw[hd];exact HV)];refine GM (GP (GM (LV ho UO (GM (LX ho UO (GM (JX (GP ⟨_,rfl,"dict_keyiterator",_,jz!,KG.lookup,?_⟩))))))));simpa[rawInt]using h
def a1i(al:Bz_)(D:pg!)(hx:zE_)
  (h:∀h',h'.IsKeyIter it d S! es.length ep->Heap.SameBut it s.heap h'->Q (some e.key) {s with heap:=h'}):wpAny v! A hS! Q E s:=by
 show"!]";obtain⟨ai,kh⟩:=HG.mp hx;unfold pyNext;refine GM BA!;refine GM BA_
 first|refine GM (MZ hT kk_)|refine GM (OD hT kk_)
 show"!V";refine GM BD_;rw[L_];refine GP ?_;simp only[BE!,IU,OF,MC,hx];refine GM ?_
 first|refine GM (MZ hT BE_)|refine GM (OD hT BE_)
 show wpAny v! A.in1 (setField b4_ 1 pg_>>=_) _ _ s;have je:(s.heap.update it BF!).IsKeyIter it d S! es.length ep:=
  ⟨_,KL _ ho (MM (LM hd _)),(yC!).trans hc,by rw[LM hd];simp[rawInt]⟩
 refine GM (NW ho hd d_ (GM (IR (GM (QX (s:={s with heap:=s.heap.update it BF!}) je.typeIs ?_)))));exact GP (GP ⟨_,rfl,GP (h _ je dF!)⟩)
def a7w(hh:bn_)(al:Bz_)(D:pg!)(hx:aa_<=i)
  (h:BF_):wpAny v! A hS! Q E s:=by
 show"!]";unfold pyNext;refine GM BA!;refine GM BA_
 first|refine GM (MZ hT kk_)|refine GM (OD hT kk_)
 show"!V";refine GM BD_;rw[L_];refine GP ?_;simp only[BE!,IU,OF,MC,KD hx];refine GM ?_
 first|refine GM (MZ hT K_)|refine GM (OD hT K_)
 show wpAny v! A.in1 (setField b4_ 0 .none>>=_) _ _ s;refine GM (NW ho hd d_ ?_);refine GM ?_;simp only[newExc,newTuple];refine GM (JX (GM (m:=yD!) (wpAny_of_eq (a:=bZ_) yD_ (JX ?_ gE_))) gE_);simp only[raiseNew];refine GM yE_;rw[yF!];refine GM yF_;refine GM (wpAny_isInstance (T:=on_) (b:=true) (show Shared.TypeIs _ _ _ from jz!) isSubtype_stop ?_);exact GP (h _ yG!)
def a8n(hh:bn_)(I d:yz!)(hne:d≠I)(es:co_)(ep:Nat):Walks P w A I [I,d] [I] es.length ph! (λi h=>h.IsKeyIter I d i es.length ep/\Lz h d es ep) where
 sub:=λb hb=>by simp at hb;simp[hb]
 frame:=λ_ _ _ st hk=>⟨st.1.at λo e=>hk I d_ o e,st.2.at λo e=>hk d d_ o e⟩
 item:=λi s Q E hi st hQ=>by
  refine a1i st.1 st.2 (HU hi) λh' je fh=>?_;exact hQ _ h' s.toks ⟨_,HU hi,rfl⟩ ⟨je,st.2.at λo e=>(fh.2 d hne).trans e⟩ λb o hb e=>(fh.2 b fE!).trans e
 done:=λs Q E st hQ=>a7w hh st.1 st.2 u! λh' jd=>hQ h' s.toks λb o hb e=>jd b o fE! e
 self:=λ_ _ _ _ st hQ=>wpAny_pyIter_keyiter st.1 hQ
def c6e(D:Bw!)(D':Lz h d a7 bc):es=a7/\ep=bc:=by
 obtain⟨o,Y,_,h2⟩:=D;obtain⟨o',h3,_,h4⟩:=D';rw[Y]at h3;cases h3;rw[h2]at h4;injection h4 with h5 h6
 exact⟨by simpa using congrArg Array.toList h5,h6⟩
def FR(d:yz!)(ep n:Nat):It:=⟨λi H=>∃es e x,H d=some dN!/\aa_=n/\es[i]?=some e/\Be x e.key,λi H x H'=>H'=H/\∀es,H d=some dN!->∃e,es[i]?=some e/\Be x e.key,λi H=>∃es,H d=some dN!/\aa_=n/\n<=i⟩
def zR(hok:aR!)(e:H d=some dN!):Lz h d es ep:=by obtain⟨⟨h3,_⟩,_⟩:=(show Dp P w H h d dN! from hok d _ e);exact h3
def b1k{KF:zr!}(d it:yz!):Qm P w KF tg (FR d ep n) [it] it (λi h=>h.IsKeyIter it d i n ep) where
 mem:=by simp
 obj:=λi h st b hb=>by
  have e:b=it:=by simpa using hb
  subst e;show"#$"
 keep:=λi h h' st k=>st.at λo e=>k it d_ o e
 item:=by
  intro X hP hw hK hc i h1 s Z H E I hf st hg;subst hP hw hK;obtain⟨es,e,x,hH,hl,hx,rx⟩:=hg;have D:=zR I.hok hH;obtain⟨f0,f1,f2,f3,f4,f5⟩:=hf it d_;subst hl;refine a1i st D hx λh' ac sb=>?_;have I1:Inv X h1 Z H {s with heap:=h'}:=I.turned (t':=s.toks) rZ_ f0 f1 f3 f4 f5;obtain⟨o,eo,c,dd⟩:=id ac;exact⟨_,rfl,b5m (s:=lH!) eo c dd b_ ⟨x,H,I1,rx,⟨rfl,λa7 hy=>by
   obtain⟨rfl,_⟩:=c6e D (zR I.hok hy);exact⟨e,hx,rx⟩⟩,ac,λb hb=>(fD_).1⟩⟩
 done:=by
  show"!3";obtain⟨es,hH,hl,hx⟩:=hg;show"!5";subst hl;exact a7w a9_ st (zR I.hok hH) hx λh' eb=>lI!
 self:=λ_ _ _ _ _ st h=>wpAny_pyIter_keyiter st h
end
section
def Gf(f:WE):WI:=λρ M T=>f ρ M λd M1=>Du gV! λq=>T km! (λM=>M q.1=some oZ!) M1
def yA(h:ag!):MI X own tg a (Gf fa):=⟨by
 rintro h1 s Z H R I ⟨G,ρ,M,T,st,e,k⟩;refine h.run I st e λd M1 v G1 H1 u s1 r1 x1 m1 q1 I1 rx=>?_;obtain⟨⟨p,σ,ep⟩,e1,r2⟩:=cC r1;obtain⟨rfl,rfl,hM⟩:=bZ q1 e1;cases rx;obtain⟨es,Y,h2,h3,h4,h5,h6⟩:=eC I1 m1 x1.sub hM;have ay:ap!=aa_:=MY h2.1;refine b5h h4 h3 ⟨x_,[x_],_,FR p ep aa_,H1,rfl,lJ_,b1k p _,d5!,bD_,k _ _ M1 _ G1 H1 r2 x1 m1 λi M' G' H' s2 s3 m' ck=>?_⟩
 .have e:b=x_:=by simpa using hb
  show"!k"
 .obtain⟨_,a7,g1,g2⟩:=m'.cell p _ ck;have hlen':ap!=a7.length:=MY g2.1;refine⟨dA!,λhi=>⟨a7,g1,m_,by rw[hi,GY];show aa_<=ap!;omega⟩⟩;rw[IK]at hd;obtain⟨q,hq,rfl⟩:=GX.mp hd;obtain⟨e',jd,⟨v,r1,rv⟩,_,_⟩:=fW g2.1 hq;refine⟨⟨a7,e',v,g1,m_,jd,rv⟩,je_⟩;obtain⟨z1,z2⟩:=hy;subst z1;obtain⟨e2,g9,rx⟩:=z2 a7 g1;rw[jd]at g9;cases g9;rw[rx.inj rv];exact⟨G',Br.refl s3,r1⟩⟩
end
section
def gR{wr:aS!}(I:a_)(hf:∀b∈wr,Eu X h1 H b)(kp:∀c o,c∉wr->s.heap.get? c=some o->h2.get? c=some o):Inv X h1 Z H {s with heap:=h2,toks:=t'}:=by
 refine I.step (g':=s.gens) (d':=s.drawn) (t':=t') (ch:=wr) jF_ y4_ y5! le! y5_ le_ lf! y6! lg! jG! I.bare
 .obtain⟨f0,f1,f2,f3,f4,f5⟩:=hf c hc;exact⟨f3,f1,f4,f5⟩
 .show"#C";exact y6_
 .refine(y7!).stay y7_ y8! λ_ _ e'=>e';have hn:=(hf d hm).1;obtain rfl|hd:=hd
  .rw[hn]at e;cases e
  .rw[hn]at hd;cases hd
def c2z(I:Inv X h1 Z H s0)(I1:a_)(hT:BH!<=T)(eT:s.heap.IsTuple T cf!)(rv:da_)(hz:g!<=sizeLine):Inv X h1 Z (upd H T aQ_) s:=by
 have uf:H T=none:=I.hok.fresh hT;have ne:∀c o,H c=some o->c≠T:=λc o e=>cD e uf;refine Inv.step (g':=s.gens) (d':=s.drawn) (t':=s.toks) (h':=s.heap) (ch:=[T]) I1 jF_ zd_ ze! ze_ zf!
  (zg!) zg_ zh! nf! jG! I1.bare
 .have e:c=T:=by simpa using hc
  subst e;obtain⟨_,g1,_,g3,g4,g5⟩:=I.fpOk hT uf;exact⟨g3,g1,g4,g5⟩
 .rw[nf_];exact n
 .by_cases hb:c=T
  .show"!s";exact⟨hz,us,rv,eT⟩
  .rw[dc!]at e;exact(zh_).stay ng! zi! λd xs q=>by rw[or_];exact q
end
def FQ(x:Str):It:=⟨yk_,λi H v H'=>∃T c,v=.ref T/\H T=none/\x.cps[i]?=some c/\H'=upd H T (.tup [b2!,ep!]),yl!⟩
def a3j{KF:zr!}(rn:g1_)(hd:yo!)
  (D:∀A':Around,oe_=none->Draws P w A' it [it] x.cps.size BH_ St'):
  Qm P w KF eW! (FQ x) bi! e (λi h=>i<=eU!/\BI!/\St' i h) where
 mem:=by simp
 obj:=λi h st b hb=>by
  simp only[GT,JM,NX]at hb;obtain⟨_,⟨old,s1⟩,s2⟩:=st;obtain rfl|rfl:=hb
  .exact⟨_,s1,ge_⟩
  .exact hd i h s2
 keep:=λi h h' st k=>by
  have W:=WalksT.enumerateD (A:=callerA) (D callerA.in1 rfl) e rn pj! d_;exact⟨st.1,W.frame i h h' st.2 λb hb o q=>k b fE! o q⟩
 item:=by
  intro X hP hw hK hc i h1 s Z H E I hf st hg;subst hP hw hK;have hh:=I.ok.hd hc;have W:=WalksT.enumerateD (A:=X.A) BJ! e rn pj! d_;refine W.item i s _ _ hg st.2 λT xy h' tk hP hT YG hm kp=>⟨_,rfl,W.go rf n1 tp i T _ _ _ hm λh2 bh um=>?_⟩;obtain⟨t,y,⟨c,u,gn,rfl⟩,rfl⟩:=hP;have YH:∀b∈bi!,Eu X h1 H b:=hf;have I1:Inv X h1 Z H {s with heap:=h2,toks:=tk}:=gR I YH λc o hc eo=>um c o hc (kp c o hc eo);have UP:T∉bi!:=W.apart i T _ hm;have eT:h2.IsTuple T #[.int i t,.str an! u]:=by
   obtain⟨o,eo,r⟩:=YG;exact⟨o,um T o UP eo,r⟩
  have I2:=c2z (us:=[.int i t,.str an! u]) (xs:=[b2!,ep!]) I I1 hT eT (.cons ex! (.cons ⟨u,rfl⟩ .nil)) (by show 2<=sizeLine;rw[JI];decide);refine⟨.ref T,_,I2,rfl,⟨T,c,rfl,I.hok.fresh hT,gn,rfl⟩,⟨hg,bh⟩,bD_⟩;rw[aW (λz:b=T=>UP (by rw[<-z];exact hb))];exact(fD_).1
 done:=by
  show"!3";have hh:=I.ok.hd hc;have W:=WalksT.enumerateD (A:=X.A) BJ! e rn pj! d_;have hi:i=eU!:=RX st.1 hg;subst hi;exact W.done s _ _ st.2 λh' tk kp=>⟨rfl,gR I hf kp⟩
 self:=λA i s Q E st h=>by
  obtain⟨_,⟨old,s1⟩,_⟩:=st;exact wpAny_pyIter_enum s1 h
section
def Qi(f:i_):Ab->Option as_:=λρ=>(aj_).bind λd=>match d with|.str x=>some (x.cps.toList.zipIdx.map λq=>.tup BL_)|_=>none
def b6l(hg:us_)(hm:BM!)(h:Q!)(hs:BM_:=by rfl)(ar:BN!:=by rfl):
  DI X own eW! (.Call (.Name "enumerate" p) [a] [] pos) (Qi fa):=⟨by
 rintro h1 s Z H R I ⟨G,ρ,ds,er,e,k⟩;obtain⟨d,e1,e2⟩:=GN.mp e;cases d<;>first|(cases e2;done)|skip
 rename_i x;cases e2;refine Call_ (iD I hg hm boot_enumerate (JP (cW (cO h.ok fI hs pos h1 s Z H (λvs H1=>∃v G1,vs=[v]/\Br G H G1 H1/\Aj X.K G1 b2_ v) I ⟨G,ρ,_,er,e1,λv G1 H1 x1 r1=>⟨v,G1,rfl,x1,r1⟩⟩) ?_) hs ar));rintro us s1 ⟨vs,H1,I1,r1,v,G1,q1,x1,rr⟩;subst q1;cases bT rr;obtain⟨u,rfl,t,rfl⟩:=mH r1;refine call_enumerate_str λh' he al hsz hk=>?_;refine wpAny_pyIter_enum he ?_;have I2:Inv X h1 Z H1 {s1 with heap:=h',toks:=s1.toks}:=I1.kept (t':=s1.toks) hk;have jr:∀b∈[x_+1,x_],x_<=b:=λb hb=>by
  simp only[GT,JM,NX]at hb;obtain rfl|rfl:=hb<;>omega
 have ag:∀{St':hR_},St' 0 h'->(∀i h,St' i h->∃o,h.get? x_=some o/\∀v,o.data≠.cell v)->(∀A':Around,oe_=none->Draws X.prog X.w A' s1.heap.objs.size [x_] x.cps.size BH_ St')->
   CL X h1 Z eW! R (.ref (x_+1)) {s1 with heap:=h'}:=λ{St'} h0 hd D=>by
  refine⟨_,_,_,FQ x,H1,rfl,I2,a3j BO! hd D,⟨IF _,⟨_,he⟩,h0⟩,λb hb=>I1.fpOk pl! BP!,k _ G1 H1 x1 ?_⟩;intro i G' H' g1 g2;refine⟨dA!,λhi=>by rw[GY,List.length_zipIdx,JE]at hi;exact NU hi.symm⟩;rw[IK,List.getElem?_zipIdx]at hd;obtain⟨q,hq,rfl⟩:=GX.mp hd;obtain⟨c,hc,rfl⟩:=GX.mp hq;rw[NC]at hc;refine yn_;obtain⟨T,c',rfl,hT,cb,rfl⟩:=hy;rw[hc]at cb;cases cb;refine⟨_,Br.laid g2 hT,fK (g2.free hT) (Af.cons ?_ (Af.cons Aj.str Af.nil))⟩;rw[RL];exact Aj.int
 cases ha:x.cps.all (·<128)
 .have je:h'.IsStrIter s1.heap.objs.size "str_iterator" x t 0:=by simpa[strIterType,ha]using al
  exact ag (St':=λi h=>h.IsStrIter s1.heap.objs.size "str_iterator" x t i) je BP_ λA' hh=>Draws.strWide hh _ x t
 .have je:h'.IsStrIter s1.heap.objs.size "str_ascii_iterator" x t 0:=by simpa[strIterType,ha]using al
  exact ag (St':=λi h=>h.IsStrIter s1.heap.objs.size "str_ascii_iterator" x t i) je BP_ λA' hh=>Draws.strAscii hh _ x t⟩
def Py(a:Int)(n:Nat):List D:=(nR_).map λi=>.int (a+(i:Nat))
def Qh(f g:i_):Ab->Option as_:=λρ=>(aj_).bind λx=>(g ρ).bind λy=>match x,y with|.int i,.int j=>if -1000<=i/\i<=100000/\-1000<=j/\j<=100000 then some (Py i (j - i).toNat)else none|_,_=>none
end
end DL
namespace HT
open PySem PySem.Spec PyProof.Rows
section
end
end HT
namespace DL
open PySem PySem.Spec PyProof.Rows L2
section
def Ol:List D->Option (List Int)
 |[]=>some []
 |.int i::r=>(Ol r).map (i::·)
 |_=>none
def vF:∀{ds:b!} {vs:o!} {ns:v_},Af KF G ds vs->Ol ds=some ns->vs=ns.map V.int
 |[],vs,ns,r,e=>by cases bY r;cases e;rfl
 |d::ds,vs,ns,r,e=>by
  obtain⟨v,t,rfl,r1,r2⟩:=bE r;cases d<;>simp only[Ol]at e<;>first|(cases e;done)|skip
  obtain⟨l,e1,rfl⟩:=GX.mp e;rw[vF r2 e1];cases aX r1;rfl
def b0p(hg:hV!)(hm:hV_)(ha:Q!)(hb:cj_)(hs:r9_:=by rfl)(bj:sa_:=by rfl)
  (cg:starEach (a::[b]) X.env=dh!::starEach [b] X.env:=by rfl)(jq:starEach (b::[]) X.env=hW!::starEach [] X.env:=by rfl):DI X own tg sb! (Qh fa fb):=
 a2p (a9e hg hm (cO ha.ok (cO hb.ok fI jq) cg) hs bj) λZ G H R ρ ds er e k=>by
  obtain⟨x,e1,e3⟩:=GN.mp e;obtain⟨y,e2,e4⟩:=GN.mp e3;clear e e3;split at e4
  .rename_i i j;split at e4
   .rename_i h;cases e4;refine zn!;cases aX r1;cases aX r2;refine⟨i,j,rfl,m_,k _ G2 H2 cP_ ?_⟩;intro n G' H' g1 g2;unfold Py;refine xu_;rw[IK]at hd;obtain⟨m,hj,rfl⟩:=GX.mp hd;obtain⟨hl,he⟩:=HG.mp hj;rw[OX]at he;subst he;rw[LN]at hl;refine xv!;obtain⟨z1,z2⟩:=hy;subst z1 z2;exact⟨G',Br.refl g2,Aj.int⟩
   .cases e4
  .cases e4
end
end DL
namespace DL
open PySem PySem.Spec PyProof.Rows L2
section
variable{p p2 pos:Pos}
def Wl(i:Nat)(f:WE):WS:=λρ M R=>f ρ M λd M1=>Du oZ_ λq=>match ρ[i]? with
 |some (some (.lst ds))=>e_+o0_<=big/\R (.nx (ρ.set i (some (.lst (ds++q.2))))) M1
 |_=>False
def a9x(bx:eF_:=by decide)(h:a4!)(hN:ac!:=by rfl)(hv:cy!:=by first|exact Or.inl rfl|exact Or.inr d!|exact Or.inr at!)
  (hd:x!:=by decide)(bz:cy_:=by decide)
  (hst:jm!:=by rfl)(iy:((mX!).all cH!&&(cH_).all cI!
   &&decide xN!)=true:=by rfl) (iz:es!:=by rfl)
  (iu:attributeBase bR_ "extend" X.env n0_=eval bR_ X.env:=by rfl) (ja:gu!:=by rfl) (gu:swapsWith BQ! none pos.line X.env=pure false:=by rfl):
  MS X own own (.Expr BQ! pos) (Wl i f):=
 nB (qN (a0z NY PySem.F.slot_list_extend PySem.F.type_list_extend a9w nA! xO! iu iy iz hst ja) gu) λM0 G0 F0 E Z G H ρ M R sr e' k1 k2=>by
  obtain⟨p,ds,vs,Y,h2,h3,h4,h5⟩:=sr.st.or.own_ i bx;refine⟨gu_,h2,xO_,G,ρ,M,_,sr.st,e',Bh_⟩;obtain⟨⟨c,zs⟩,e1,r⟩:=cC r;obtain⟨z1,z2,z3,us,h6,h7⟩:=kT m q e1;cases z2;rw[Y]at r;have b8:=sr.grow x m;obtain⟨p',q9,gc,g1,g2,g3,g4,g5⟩:=b8.st.or.own_ i bx;rw[h2]at g2;cases g2;rw[Y]at g1;cases g1;refine⟨p,c,gc,us,rfl,rfl,g3,h6,?_,k1 _ M' G' Z _ r.2 (b8.after (b8.sr.upd bx h2 (cS g5 h7)))⟩;have:=r.1;rw[<-aH g5,<-aH h7];exact cV this
def Tb(fs:WA)(fb:WE):WE:=λρ M R=>fs ρ M λds M1=>e_<=1000/\fb ρ M1 λy M2=>match y with
 |.int k=>BQ_/\∀p,M2 p=none->R z_ (mup M2 p BR!)
 |_=>False
def a2m{p:yz!}{o:HO}(s:B!)(hp:ch!):Br G H G eE_:=⟨eF!,gW hp,s.trans (gW hp),cS_⟩
def sA{KF:zr!}(r:jk!):∀k:Nat,Af KF G (List.replicate k ds).flatten (List.replicate k vs).flatten
 |0=>Af.nil
 |k+1=>by
  rw[KR,KR,ND,ND];exact cS r (sA r k)
def b9i(ha:e2_)(hb:by!):ME X own BS! (Tb fs fb):=
 eR BS_ λZ G H Q ρ M R st e k=>⟨G,ρ,M,_,st,e,λds M1 vs G1 H1 r1 x1 m1 q1=>⟨by rw[<-aH q1];exact fB r1.1,λp hp=>by
  have xj:Br G1 H1 G1 BT!:=a2m x1.sub hp;have hM:M1 p=none:=m1.nocell hp;refine BT_;cases y<;>first|exact r2.elim|skip
  rename_i n;cases aX q2;obtain⟨⟨hn,jj,hl⟩,r2⟩:=r2;have rq:H2 p=some ch_:=x2.keep p _ bK hM;refine BU!;have x12:=(BU_).trans x2 pn_;exact k _ _ _ G2 _ (r2 c (m2.nocell hc)) (x12.trans (.laid x2.sub hc) m2) (m2.laid hc x2.sub ⟨_,bK,sA a4_ _⟩) Aj.fn⟩⟩
end
nonrec def rk(r:po_)(xs:kr_)(i:Nat):Int:=(xs[i]?.map r).getD 0
def b1z(hs:c<xs.size)(hd:d<=c)(k:Nat):rk r (bubble xs c d) k=if k=c - d then rk r xs c else if c - d<k/\k<=c then rk r xs (k - 1)else rk r xs k:=by
 unfold rk;rw[getElem?_bubble hs d hd k];split
 .rfl
 .split<;>rfl
def a3r(hj:j<=xs.size)(k:Nat):rk r BV_ k=if i<=k/\k<j then rk r xs (i+j - 1 - k)else rk r xs k:=by unfold rk;rw[getElem?_mirror_all hj k];split<;>rfl
def mM(hj:j<=xs.size)(he:∀k,i<=k->k<j->rk r xs k=rk r xs dO!)(k:Nat):rk r BV_ k=rk r xs k:=by
 rw[a3r hj];by_cases h:i<=k/\k<j
 .rw[HC h,he _ a! a!,he k h.1 h.2]
 .rw[HA h]
def Up(r:po_)(xs:kr_)(n:Nat):Prop:=∀i j,i<=j->j<n->rk r xs i<=rk r xs j
def Dn(r:po_)(xs:kr_)(n:Nat):Prop:=∀i j,i<=j->j<n->rk r xs j<=rk r xs i
structure SB(kd:SortKind)(a0:kr_)(st:SortSt):Prop where
 pm:(y_).Perm a0
 kn:kindOf st=kd
 fl:failedOf st=none
 pd:pendingOf st=#[]
def SB.sz{st:SortSt}(h:bX!):(y_).size=a0.size:=h.pm.size_eq
def SB.put{st:SortSt}(h:bX!)(hp:xs.Perm y_):SB kd a0 (setArr st xs):=⟨hp.trans h.pm,h.kn,h.fl,h.pd⟩
section
variable{prog:yL!}{w:yK!}{A:yA!}{s:yM!}{a0:Array Keyed}{kd:SortKind}{r:Keyed->Int}
variable (prog w A s a0 kd r)in
def Ru:Prop:=∀(x y:Keyed) (F:J_) (Q:Bool->Shared->Prop),x∈g5!->y∈g5!->Q (decide (r x<r y)) s->wpAny l_ A (keyLt' kd x.1 y.1) Q F s
def b1x{st:SortSt}(hl:c6!)(b:bX!)(hi:i<a0.size)(hj:j<a0.size)(h:Q (some (decide (rk r y_ i<rk r y_ j))) st):wpS l_ A E s (ltAt' i j) Q st:=by
 have at_:∀k,k<a0.size->∃p,y_[k]?=some p/\p∈g5!/\rk r y_ k=r p:=λk hk=>by
  have d8:k<(y_).size:=by rw[b.sz];exact hk
  refine⟨y_[k],BX!,(Array.perm_iff_toList_perm.mp b.pm).mem_iff.mp d_,?_⟩;unfold rk;rw[BX!];rfl
 obtain⟨x,ex,mx,rx⟩:=at_ i hi;obtain⟨y,ey,my,ry⟩:=at_ j hj;rw[rx,ry]at h;rw[ltAt'_eq];refine JR fd_;show wpS l_ A E s (elem' y_ i>>=λx=>elem' y_ j>>=λy=>lt' x y) Q st;rw[elem'_eq,elem'_eq,ex,ey];refine JR (LU (JR (LU ?_)));rw[lt'_eq];refine JR fd_;rw[b.kn];exact JR (wpS_lift (ML (hl x y _ _ mx my ⟨rfl,LU h⟩)))
def c1w{st:SortSt}(hl:c6!)(hn:fe!)(ha:1<=a)(y8:a<=n)(b:bX!)(hu:Up r y_ a)
  (h:∀m,a<=m->m<=n->Up r y_ m->(m=n\/rk r y_ m<rk r y_ g6!)->Q (none,m) st):wpS l_ A E s (ascLoop a n) Q st:=by
 unfold ascLoop;refine QQ (I:=λx c ac=>ac=st/\c=(none,x)/\Up r y_ x) ?_ ?_ ⟨rfl,rfl,hu⟩
 .rintro x c ac Y h2 ⟨rfl,rfl,u⟩;refine JR (b1x hl b (HY h2 hn) a! ?_);by_cases q:rk r w_ x<rk r w_ g6_
  .rw[HF q];exact LU (h x Y (NT h2) u (.inr q))
  .rw[HB q];refine LU ⟨rfl,rfl,BZ_⟩;obtain h5|h5:=KN j x
   .exact u i j h3 h5
   .have:j=x:=by omega
    subst this;obtain h6|h6:=KN i j
    .have:=u i dO! a! a!;omega
    .have:i=j:=by omega
     rw[this];exact KW _
 .rintro c ac ⟨rfl,rfl,u⟩;rw[show max a n=n by omega]at u ⊢;exact h n y8 u! u al_
def b1u{st:SortSt}(hl:c6!)(hn:fe!)(Y:1<=m)(hm:m<=n)(b:bX!)(hd:Dn r y_ m)
  (h:pq_):wpS l_ A E s (tail3 m n) Q st:=by
 unfold tail3;have b':SB kd a0 (setArr st (mirror y_ 0 m ((m - 0) / 2))):=b.put ku_;have hz:m<=(y_).size:=by rw[b.sz];omega
 refine JR (wpS_reverse (JR (c1w hl hn Y hm b' (λi j h3 h4=>?_) λk h3 h4 u _=>LU (h k _ b' a! h4 u))));rw[a3r hz,a3r hz,by_,by_];exact hd _ _ a! a!
def c3g{st:SortSt}(hl:c6!)(hn:fe!)(Y:1<=m)(hm:m<=n)(b:bX!)(hd:Dn r y_ m)
  (h:∀k q ac,SB kd a0 ac->m<=k->k<=n->Dn r w_ k->q+1<=k->(∀i,k - (q+1)<=i->i<k->rk r w_ i=rk r w_ (k - 1))->Q (none,k,q) ac):wpS l_ A E s (descLoop m n) Q st:=by
 unfold descLoop;refine QQ (I:=λx c ac=>∃q,c=(none,x,q)/\SB kd a0 ac/\Dn r w_ x/\q+1<=x/\∀i,x - (q+1)<=i->i<x->rk r w_ i=rk r w_ g6_) ?_ ?_ ⟨0,rfl,b,hd,m_,λi h2 h3=>by rw[show i=m - 1 by omega]⟩
 .rintro x c ac h2 h3 ⟨q,rfl,b',d,hq,he⟩;have hz:x<=(w_).size:=by rw[b'.sz];omega
  refine JR (b1x hl b' (HY h3 hn) B2_ ?_);by_cases p:rk r w_ x<rk r w_ g6_
  .rw[HF p];have qm:∀xs:Array Keyed,(∀k,rk r xs k=rk r w_ k)->Dn r xs (x+1):=λxs hk i j h4 h5=>by
    rw[hk,hk];obtain h6|h6:=KN j x
    .exact d i j h4 h6
    .have:j=x:=by omega
     subst this;obtain h7|h7:=KN i j
     .have:=d i dO! a! a!;omega
     .show"#A"
   by_cases uo:q>0
   .simp only[JN,uo];exact JR (wpS_reverse (LU ⟨0,rfl,b'.put ku_,qm _ (mM hz he),m_,B3!⟩))
   .simp only[JN,uo,IU];exact LU ⟨0,rfl,b',qm _ λ_=>rfl,m_,B3!⟩
  .rw[HB p];show"!v";refine JR (b1x hl b' B2_ (HY h3 hn) ?_);by_cases p2:rk r w_ g6_<rk r w_ x
   .rw[HF p2];exact LU (h x q ac b' h2 (NT h3) d hq he)
   .rw[HB p2];have ex:rk r w_ x=rk r w_ g6_:=by omega
    refine LU ⟨q+1,rfl,b',λi j h4 h5=>?_,m_,λi h4 h5=>?_⟩
    .obtain h6|h6:=KN j x
     .exact d i j h4 h6
     .have:j=x:=by omega
      subst this;obtain h7|h7:=KN i j
      .rw[ex];exact d i dO! a! a!
      .show"#A"
    .rw[show x+1 - 1=x by omega];obtain h6|h6:=KN i x
     .rw[ex];exact he i a! h6
     .rw[show i=x by omega]
 .rintro c ac ⟨q,rfl,b',d,hq,he⟩;rw[show max m n=n by omega]at d hq he ⊢;exact h n q ac b' hm u! d hq he
def b1w{st:SortSt}(hl:c6!)(hn:fe!)(hm:m+1<=n)(b:bX!)(hd:Dn r y_ (m+1))
  (h:pq_):wpS l_ A E s (descPart m n) Q st:=by
 unfold descPart;refine JR (wpS_lift (KH ⟨rfl,JR (c3g hl hn a! hm b hd λk q ac b' Y h2 d hq he=>?_)⟩));by_cases uo:q>0
 .simp only[JN,uo];refine JR (wpS_reverse (b1u hl hn a! h2 (b'.put ku_) (λi j h4 h5=>?_) h));have hz:k<=(w_).size:=by rw[b'.sz];omega
  rw[mM hz he,mM hz he];exact d i j h4 h5
 .simp only[uo,IU];exact b1u hl hn a! h2 b' d h
def b8a{st:SortSt}(hl:c6!)(hn:fe!)(Y:1<=n)(b:bX!)(h:pq_):
  wpS l_ A E s (countRun' 0 n) Q st:=by
 rw[countRun0_eq];refine JR (c1w hl hn (HK 1) Y b (λi j h3 h4=>by rw[ff!];exact KW _) λm h3 h4 u YI=>?_);by_cases e:m=n
 .simp only[JC,e,JN];rw[<-e];exact LU B4!
 .have ai:rk r y_ m<rk r y_ g6!:=YI.resolve_left e;simp only[JC,e,IU];by_cases hg:m>1
  .simp only[hg,JN];refine JR (b1x hl b a! a! ?_);by_cases p:rk r y_ 0<rk r y_ g6!
   .rw[HF p];exact LU B4!
   .rw[HB p];have uq:∀k,0<=k->k<m->rk r y_ k=rk r y_ g6!:=λk _ hk=>by
     have a1:=u 0 k a! hk;have a2:=u k g6! a! a!;omega
    have hz:m<=(y_).size:=by rw[b.sz];omega
    refine JR (wpS_reverse (b1w hl hn a! (b.put ku_) B4_ h));rw[mM hz uq,mM hz uq];obtain h7|h7:=KN j m
    .rw[uq i a! a!,uq j a! h7];exact KW _
    .have:j=m:=by omega
     subst this;obtain h8|h8:=KN i j
     .rw[uq i a! h8];omega
     .show"#A"
  .simp only[hg,IU];have:m=1:=by omega
   subst this;refine b1w hl hn a! b B4_ h;obtain h8|h8:=KN i j
   .rw[show i=0 by omega,show j=1 by omega];exact Int.le_of_lt ai
   .show"#A"
def c4q{lo hi k x n:Nat}(h:¬lo>=hi)(g2:hi<=k)(g3:hi - lo<=k - x)(hk:k<n):lo<=cs_ / 2/\cs_ / 2<hi/\cs_ / 2<k/\cs_ / 2<n/\cs_ / 2 - lo<=k - (x+1)/\hi - (cs_ / 2+1)<=k - (x+1):=by omega
def c7n{st:SortSt}(hl:c6!)(hn:fe!)(hk:k0<=n)(b:bX!)(hu:Up r y_ k0)(h:∀ac,SB kd a0 ac->Up r w_ n->Q true ac):
  wpS l_ A E s (binarySort' 0 n k0) Q st:=by
 rw[binarySort'_eq];simp only[RL];refine JR (wpS_mono (QQ (I:=λk c ac=>c=eY_/\SB kd a0 ac/\Up r w_ (min k n)) (Q:=λc ac=>c=eY_/\SB kd a0 ac/\Up r w_ n) ?_ ?_ ⟨rfl,b,BZ_⟩) ?_)
 .rintro k c ac h2 h3 ⟨rfl,b',u⟩;rw[show min k n=k by omega]at u;have pj:k<a0.size:=by omega
  refine JR (wpS_mono (QQ (I:=λx c bh=>bh=ac/\∃lo hi,c=B6_/\lo<=hi/\hi<=k/\hi - lo<=k - x/\B7!/\∀i,hi<=i->i<k->rk r w_ k<rk r w_ i)
   (Q:=λc bh=>bh=ac/\∃lo hi,c=B6_/\lo<=k/\B7!/\∀i,lo<=i->i<k->rk r w_ k<rk r w_ i) ?_ ?_ ⟨rfl,0,k,rfl,m_,m_,m_,λi hi=>by omega,λi h4 h5=>by omega⟩) ?_)
  .rintro x c bh h4 h5 ⟨rfl,lo,hi,rfl,g1,g2,g3,g4,g5⟩;show"#=";by_cases y9:lo>=hi
   .rw[HC y9];have:lo=hi:=by omega
    subst this;exact LU B7_
   .rw[HA y9];obtain⟨m1,m2,m3,m4,m5,m6⟩:=c4q y9 g2 g3 pj;refine JR (b1x hl b' pj m4 ?_);by_cases p:rk r dP_ k<rk r dP_ pw_
    .rw[HF p];exact LU ⟨rfl,lo,cs_ / 2,rfl,m1,NT m3,m5,g4,λi h6 h7=>Int.lt_of_lt_of_le p (u pw_ i h6 h7)⟩
    .rw[HB p];exact LU ⟨rfl,cs_ / 2+1,hi,rfl,m2,g2,m6,λi h6=>Int.le_trans (u i pw_ (Nat.le_of_lt_succ h6) m3) (Int.not_lt.mp p),g5⟩
  .rintro c bh ⟨rfl,lo,hi,rfl,g1,g2,g3,g4,g5⟩;have:lo=hi:=by omega
   subst this;exact B7_
  .rintro c bh ⟨rfl,lo,hi,rfl,g1,g4,g5⟩;rw[moveDown'_eq];refine JR (wpS_modify (LU ⟨rfl,b'.put (bubble_perm _ _ _),λi j h6 h7=>?_⟩));rw[show min S_ n=k+1 by omega]at h7;have pb:k<(dP_).size:=by rw[b'.sz];exact pj
   rw[b1z pb a!,b1z pb a!,show k - (k - lo)=lo by omega];have n1:∀m,m<lo->rk r dP_ m<=rk r dP_ k:=g4;have n2:∀m,lo<=m->m<k->rk r dP_ k<rk r dP_ m:=g5;by_cases ei:i=lo
   .rw[HC ei];by_cases ej:j=lo
    .rw[HC ej];exact KW _
    .rw[HA ej];by_cases fj:lo<j/\j<=k
     .rw[HC fj];exact Int.le_of_lt (n2 dO! a! a!)
     .omega
   .rw[HA ei];by_cases fi:lo<i/\i<=k
    .rw[HC fi,HA a!,by_];exact u (i - 1) dO! a! a!
    .rw[HA fi];by_cases ej:j=lo
     .rw[HC ej];exact n1 i a!
     .rw[HA ej];by_cases fj:lo<j/\j<=k
      .rw[HC fj];exact u i dO! a! a!
      .rw[HA fj];exact u i j h6 a!
 .rintro c ac ⟨e,b',u⟩;rw[show min (max (max k0 1) n) n=n by omega]at u;exact⟨e,b',u⟩
 .by_cases h0:k0=0
  .show"#A"
  .exact hu i j h3 a!
 .rintro c ac ⟨rfl,b',u⟩;exact LU (h ac b' u)
def b1v{st:SortSt}(hl:c6!)(b:bX!)(h2:2<=a0.size)(pv:a0.size<64)
  (h:∀ac,(w_).Perm a0->failedOf ac=none->Up r w_ a0.size->Q () ac):wpS l_ A E s sortRuns' Q st:=by
 rw[sortRuns'_eq];refine JR fd_;have YJ:minRun' a0.size a0.size 0=a0.size:=by
  have:∀f,minRun' (f+1) a0.size 0=a0.size:=λf=>by rw[minRun'_succ,HC pv];rfl
  have q:=this (a0.size - 1);rwa[show a0.size - 1+1=a0.size by omega]at q
 dsimp only;simp only[b.sz,YJ];have ag:∀{ac:SortSt},SB kd a0 ac->Up r w_ a0.size->(arrOf kx_).Perm a0/\failedOf kx_=none/\pendingOf kx_=#[kx!]/\Up r (arrOf kx_) a0.size:=
  λ{ac} b' u=>⟨b'.pm,b'.fl,by show(B9_).push _=_;rw[b'.pd];rfl,u⟩
 refine JR (wpS_mono (QQ (I:=λx c ac=>(x=0/\c=(none,0)/\SB kd a0 ac)\/(1<=x/\c=Ca!/\(w_).Perm a0/\failedOf ac=none/\pendingOf ac=#[kx!]/\Up r w_ a0.size))
  (Q:=λc ac=>c=Ca!/\(w_).Perm a0/\failedOf ac=none/\pendingOf ac=#[kx!]/\Up r w_ a0.size) ?_ ?_ (.inl ⟨rfl,rfl,b⟩)) ?_)
 .rintro x c ac _ hx (⟨rfl,rfl,b'⟩|⟨_,rfl,d⟩)
  .show"#=";rw[HA a!];simp only[Nat.sub_zero,Nat.min_self,RL];refine JR (b8a hl u! a! b' λm bh b2 g1 g2 u2=>?_);by_cases ai:m<a0.size
   .simp only[ai,JN];refine JR (wpS_lift (KH ⟨rfl,JR (c7n hl u! g2 b2 u2 λvh b3 u3=>?_)⟩));show"#2";refine JR fd_;rw[show(pendingOf vh).back?=none by rw[b3.pd];rfl];exact JR (wpS_modify (LU (.inr ⟨HK 1,rfl,ag b3 u3⟩)))
   .simp only[ai,IU];have:m=a0.size:=by omega
    subst this;refine JR fd_;rw[show(pendingOf bh).back?=none by rw[b2.pd];rfl];exact JR (wpS_modify (LU (.inr ⟨HK 1,rfl,ag b2 u2⟩)))
  .show"#=";rw[HC u!];exact LU ⟨rfl,d⟩
 .rintro c ac (⟨hx,_⟩|⟨_,e,d⟩)
  .omega
  .exact⟨e,d⟩
 .rintro c ac ⟨rfl,d1,d2,d3,d4⟩;refine JR (wpS_mono (QQ (I:=λ_ c bh=>bh=ac/\c=eY_) (Q:=λc bh=>bh=ac/\c=eY_) ?_ Cb! aI_) ?_)
  .rintro x c bh _ _ ⟨rfl,rfl⟩;refine JR fd_;rw[HC (by rw[d3];exact HK 1)];exact LU aI_
  .rintro c bh ⟨rfl,rfl⟩;exact LU (h _ d1 d2 d4)
end
abbrev Wm:Bool->SortKind:=sortPriv%PySem.Builtin.KeyKind.tuples
section
def Ga(h:Heap)(v:yB!)(a b:Int):Prop:=∃(p:yz!) (o:Obj) (n:Nat) (t u:Tok),v=.ref p/\h.get? p=some o/\o.cls=.type "tuple"/\o.data=.seq #[.int a t,.int b u] n
def BB(a b c d:Int):Bool:=if a=c then decide (b<d)else decide (a<c)
def vO(h:Q (decide (a<b)) s):wpAny l_ A (oneLt' f (.int a t) (.int b u)) Q E s:=by
 cases f with
 |true=>exact oneLt_int h
 |false=>
  rw[oneLt'_eq];rw[HA HV];refine GM (show wpAny l_ A (compareOp .Lt (.int a t) (.int b u)) _ E s from PyProof.Rows.lt_int ?_);exact IV h
def tI(hx:Ga s.heap x a b)(hy:Ga s.heap y c d)(h:Q (BB a b c d) s):wpAny l_ A (keyLt' (Wm f) x y) Q E s:=by
 obtain⟨p,o,n,t,u,rfl,Y,_,h2⟩:=hx;obtain⟨p',o',n',t',u',rfl,gf,_,ml⟩:=hy;refine GM (QR Y h2 (GM (QR gf ml h4!)));show wpAny l_ A (forIn [((Value.int a t,Value.int c t'),0),((Value.int b u,Value.int d u'),1)] _ _) _ E s;rw[LQ];refine GM (GM (RU a t c t' _ _ _ _ ?_));unfold BB at h;by_cases e:a=c
 .rw[HC e]at h;have e1:(a==c)=true:=by simpa using e
  rw[e1];show"#2";refine GP ?_;show"#=";rw[LQ];refine GM (GM (RU b u d u' _ _ _ _ ?_));by_cases e2:b=d
  .have e3:(b==d)=true:=by simpa using e2
   rw[e3];simp only[KM,HX,IU];refine GP ?_;dsimp only;rw[OG];refine GP K_;have e4:decide (b<d)=false:=by rw[e2];simp
   rw[e4]at h;simpa using h
  .have e3:(b==d)=false:=by simpa using e2
   rw[e3];simp only[Bool.not_false,JN];exact GM Cc!
 .rw[HA e]at h;have e1:(a==c)=false:=by simpa using e
  rw[e1];simp only[Bool.not_false,JN];exact GM Cc!
def a5v:∀(xs:ad_),Cd!->(∀ys,Paired F xs ys->Q ys.toArray s)->wpAny l_ A (xs.toArray.mapM f) Q E s:=by
 intro xs hf hq;rw[Array.mapM_eq_mapM_toList];have j9:∀(xs:ad_) (R:List β->Shared->Prop),Cd!->(∀ys,Paired F xs ys->R ys s)->wpAny l_ A (xs.mapM f) R E s:=by
  intro xs
  induction xs with
  |nil=>
   intro R _ h;rw[List.mapM_nil];exact GP (h [] .nil)
  |cons x xs ih=>
   intro R Y h2;rw[List.mapM_cons];refine GM (Y x GR _ λy hy=>GM (ih _ (λz hz=>Y z kz_) λys r9=>GP (h2 _ (.cons hy r9))))
 have:(List.toArray<$>xs.toArray.toList.mapM f:Sem (Array β))=(xs.toArray.toList.mapM f>>=λl=>pure l.toArray):=by rw[map_eq_pure_bind]
 rw[this];exact GM (j9 _ _ (by simpa using hf) λys r9=>GP (hq ys (by simpa using r9)))
def a1s(h:∀v∈vs,∃a b,Ga s.heap v a b)(h0:vs≠[])(hq:Q (Wm true) s):wpAny l_ A (keyKind' b9_) Q E s:=by
 refine GM (a5v (F:=λ_ y=>∃a t,y=some kA!) vs Cf_ λys r9=>?_)
 .obtain⟨a,b,p,o,n,t,u,rfl,Y,h2,h3⟩:=h v hv;refine GM (QV (T:="tuple") ja! ?_);rw[HA b_];exact GM (QR Y h3 (GP (hR _ ⟨a,t,rfl⟩)))
 .have gq:∀y∈ys,∃a t,y=some kA!:=by
   have j9:∀{l:j_} {m:List m9!},Paired (λ_ y=>∃a t,y=some kA!) l m->∀y∈m,∃a t,y=some kA!:=by
    intro l m hp
    induction hp with
    |nil=>intro y hy;cases hy
    |cons q _ ih=>
     intro y hy;obtain rfl|hy:=GT.mp hy
     .exact q
     .exact ih y hy
   exact j9 r9
  have hne:ys≠[]:=λz=>by subst z;cases r9;exact h0 rfl
  rw[HC (by rw[List.all_toArray,KO];intro y hy;obtain⟨a,t,rfl⟩:=gq y hy;rfl)];refine GM eV_;have hints:∀v∈(Ch!).toList,∃a t,v=Value.int a t:=λv hv=>by
   simp only[List.filterMap_toArray,MX,id]at hv;obtain⟨y,hy,e⟩:=hv;obtain⟨a,t,e2⟩:=gq y hy;rw[e2]at e;exact⟨a,t,(IW e).symm⟩
  have hz:(Ch!).toList≠[]:=λz=>by
   cases ys with
   |nil=>exact hne rfl
   |cons y r=>
    obtain⟨a,t,rfl⟩:=gq y GR;simp at z
  generalize hZ:ys.toArray.filterMap id=YK at hints hz ⊢;obtain⟨zs⟩:=YK;refine GM ?_;refine GM (a5v (F:=λ_ y=>y=Value.type "int") zs Cf_ λts UQ=>?_)
  .obtain⟨a,t,rfl⟩:=hints v im_;exact QV (typeIs_int s a t) (hR _ rfl)
  .have UR:∀t∈ts,t=Value.type "int":=by
    have j9:∀{l m:j_},Paired (λ_ y=>y=Value.type "int") l m->∀y∈m,y=Value.type "int":=by
     intro l m hp
     induction hp with
     |nil=>intro y hy;cases hy
     |cons q _ ih=>
      intro y hy;obtain rfl|hy:=GT.mp hy
      .exact q
      .exact ih y hy
    exact j9 UQ
   cases ts with
   |nil=>cases UQ;exact absurd rfl hz
   |cons t r=>
    have ht:=UR t GR;subst ht;have e1:((Ch_).toArray)[0]?=some (Value.type "int"):=rfl;rw[e1];have e2:((Ch_).toArray.all λx=>x==Value.type "int")=true:=by
     rw[List.all_toArray,KO];intro y hy;rw[UR y hy];rfl
    show"#=";rw[HC e2];exact GP (GP hq)
end
def Lm(p q:pB_):Bool:=BB p.1 p.2 q.1 q.2
def yF:Lm p q=true↔(p.1<q.1\/(p.1=q.1/\p.2<q.2)):=by
 unfold Lm BB;split
 .rename_i h;rw[HS];omega
 .rename_i h;rw[HS];omega
def a7e(p:pB_):Lm p p=false:=by
 cases h:Lm p p with
 |false=>rfl
 |true=>have:=yF.mp h;omega
def lE(Y:Lm p q=true)(h2:Lm q r=true):Lm p r=true:=by rw[yF]at Y h2 ⊢;omega
def yE(h:p≠q)(Y:Lm p q=false):Lm q p=true:=by
 have gf:¬Lm p q=true:=by rw[Y];simp
 rw[yF]at gf ⊢;have:¬(p.1=q.1/\p.2=q.2):=λz=>h (Prod.ext z.1 z.2);omega
section
variable(kf:α->Int×Int)
def Qg(x:α):List α->List α
 |[]=>[x]
 |y::r=>if Lm (kf x) (kf y)then x::y::r else y::Qg x r
def Gp:List α->List α
 |[]=>[]
 |x::r=>Qg kf x (Gp r)
def Rs(l:ad_):Prop:=l.Pairwise λx y=>Lm (kf x) (kf y)=true
variable {kf}
def pH(x:α):∀l:List α,(Qg kf x l).Perm (x::l)
 |[]=>OH _
 |y::r=>by
  unfold Qg;split
  .exact OH _
  .exact((pH x r).cons y).trans (List.Perm.swap x y r)
def cJ:∀l:List α,(Gp kf l).Perm l
 |[]=>OH _
 |x::r=>(pH x _).trans ((cJ r).cons x)
def a2d:∀{l:ad_},Rs kf l->(∀y∈l,kf x≠kf y)->Rs kf (Qg kf x l)
 |[],_,_=>List.pairwise_singleton _ _
 |y::r,h,hn=>by
  unfold Qg;unfold Rs at h;rw[KI]at h;split
  .rename_i ai;refine KI.mpr ⟨kA_,KI.mpr h⟩;obtain rfl|hz:=GT.mp hz
   .exact ai
   .exact lE ai (h.1 z hz)
  .rename_i ai;refine KI.mpr ⟨kA_,a2d h.2 λz hz=>hn z kz_⟩;obtain rfl|hz:=GT.mp ((pH x r).mem_iff.mp hz)
   .exact yE (hn y GR) zX_
   .exact h.1 z hz
def jU:∀{l:ad_},(l.map kf).Nodup->Rs kf (Gp kf l)
 |[],_=>iH!
 |x::r,h=>by
  rw[HD,HR]at h;refine a2d (jU h.2) λy hy e=>h.1 ?_;rw[e];exact HH ((cJ r).mem_iff.mp hy)
def rT:∀{l m:ad_},Rs kf l->Rs kf m->l.Perm m->l=m
 |[],m,_,_,h=>(List.Perm.nil_eq h)
 |x::l,m,Y,h2,h=>by
  cases m with
  |nil=>exact absurd h.length_eq d_
  |cons y m=>
   have e:x=y:=by
    obtain e|hx:=GT.mp (h.mem_iff.mp GR)
    .exact e
    .obtain e|hy:=GT.mp (h.symm.mem_iff.mp GR)
     .exact e.symm
     .have a1:=(KI.mp Y).1 y hy;have a2:=(KI.mp h2).1 x hx;have:=lE a1 a2;rw[a7e]at this;cases this
   subst e;rw[rT (KI.mp Y).2 (KI.mp h2).2 ((List.perm_cons x).mp h)]
def b2v(h:l.Perm m):∀{L:ad_},m=L.map f->∃L':List α,L'.Perm L/\L'.map f=l:=by
 induction h with
 |nil=>intro L e;exact⟨[],by rw[List.map_eq_nil_iff.mp e.symm],rfl⟩
 |cons x _ ih=>
  intro L e;cases L with
  |nil=>cases e
  |cons y L=>
   injection e with e1 e2
   obtain⟨L',Y,h2⟩:=ih e2;exact⟨y::L',Y.cons y,by rw[HD,h2,e1]⟩
 |swap x y l=>
  intro L e
  match L,e with
  |a::b::L,e=>
   injection e with e1 e2
   injection e2 with e3 e4
   exact⟨b::a::L,List.Perm.swap a b L,by rw[HD,HD,<-e1,<-e3,<-e4]⟩
 |trans _ _ YL YM=>
  intro L e;obtain⟨L2,Y,h2⟩:=YM e;obtain⟨L1,h3,h4⟩:=YL h2.symm;exact⟨L1,h3.trans Y,h4⟩
def Hn(ks:pD_)(k:pB_):Int:=((ks.filter λx=>Lm x k).length:Nat)
def oP(hp:p∈ks)(h:Lm p q=true):Hn ks p<Hn ks q:=by
 unfold Hn;have j9:∀l:List g9!,(Cj_).length<=(Cj!).length:=by
  intro l
  induction l with
  |nil=>simp
  |cons x l ih=>
   simp only[RN];by_cases hx:Lm x p=true
   .simp only[hx,lE hx h,JN,HJ];omega
   .by_cases hy:Lm x q=true
    .simp only[hx,hy,JN,HJ];show"!v";omega
    .simp only[hx,hy];show"!v";exact ih
 have YN:∀l:List g9!,p∈l->(Cj_).length<(Cj!).length:=by
  intro l hl
  induction l with
  |nil=>cases hl
  |cons x l ih=>
   obtain e|hl:=GT.mp hl
   .subst e;have:=j9 l;simp only[RN,a7e,h,JN,HJ,HX,IU];omega
   .have:=ih hl;simp only[RN];by_cases hx:Lm x p=true
    .simp only[hx,lE hx h,JN,HJ];omega
    .by_cases hy:Lm x q=true
     .simp only[hx,hy,JN,HJ];show"!v";omega
     .simp only[hx,hy];show"!v";show"#-"
 have:=YN ks hp;omega
def a6h(hp:p∈ks)(hq:q∈ks):decide (Hn ks p<Hn ks q)=Lm p q:=by
 cases h:Lm p q with
 |true=>exact HF (oP hp h)
 |false=>
  refine HB λz=>?_;by_cases e:p=q
  .subst e;omega
  .have:=oP hq (yE e h);omega
end
section
open Classical
def Ga.inj(x:Ga h v a b)(y:Ga h v c d):fh!=(c,d):=by
 obtain⟨p,o,n,t,u,rfl,Y,_,h2⟩:=x;obtain⟨p',o',n',t',u',e,gf,_,ml⟩:=y;cases e;rw[Y]at gf;cases gf;rw[h2]at ml;injection ml with h3 _
 have:=congrArg Array.toList h3;simp at this;rw[this.1.1,this.2.1]
def Jq(h:Heap)(v:yB!):Int×Int:=if x:∃a b,Ga h v a b then(x.choose,x.choose_spec.choose)else(0,0)
def nO(x:Ga h v a b):Jq h v=fh!:=by have z:∃a b,Ga h v a b:=⟨a,b,x⟩;unfold Jq;rw[dif_pos z];exact z.choose_spec.choose_spec.inj x
def pR(ha:g5!=L.map c_)(hk:∀q∈L,Ga h q.1.1 (kf q.2).1 (kf q.2).2)(nd:(pF_).Nodup)(hp:se.Perm a0)
  (hu:Up Ck_ se a0.size):∃L':List (Keyed×D),L'.Perm L/\se.toList=L'.map c_/\L'.map X_=Gp kf pF!:=by
 have cf:se.toList.Perm g5!:=Array.perm_iff_toList_perm.mp hp;obtain⟨L',Y,h2⟩:=b2v cf ha;refine⟨L',Y,h2.symm,rT ?_ (jU nd) ((Y.map _).trans (cJ _).symm)⟩;have mw:((L'.map X_).map kf).Nodup:=(((Y.map _).map _).nodup_iff).mpr nd;unfold Rs;rw[MF];intro i j hi hj v4;have c6:i<fh_:=by simpa using hi
 have ur:j<fh_:=by simpa using hj
 have hsz:se.size=fh_:=by rw[<-JE,<-h2,GY]
 have bj:a0.size=fh_:=by rw[<-JE,ha,GY,Y.length_eq]
 have US:∀k (d8:k<fh_),rk Ck_ se k=Hn pF_ (kf L'[k].2):=λk d8=>by
  unfold rk;have e:se[k]?=some L'[k].1:=by
   rw[<-NC,<-h2,IK,HU d8];rfl
  rw[e];show Hn _ (Jq h L'[k].1.1)=_;rw[nO (hk L'[k] Cm_)]
 have jr:=hu i j (NT v4) a!;rw[US i c6,US j ur]at jr;simp only[RM];have mem:∀k (d8:k<fh_),kf L'[k].2∈(pF!).map kf:=λk d8=>HH (HH Cm_);have ne:kf L'[i].2≠kf L'[j].2:=λe=>by
  have q:=(List.getElem_inj (i:=i) (j:=j) (h₀:=by simpa using c6) (h₁:=by simpa using ur) mw).mp ct_;omega
 cases ai:Lm (kf L'[i].2) (kf L'[j].2)with
 |true=>rfl
 |false=>
  have:=oP (mem j ur) (yE ne ai);omega
end
def a5s(a v:yB!):argsOk "list.sort" Cn!:=by unfold argsOk;kernel_rfl
def zX(a v:yB!):argsOk "sorted" Cn!:=by unfold argsOk;kernel_rfl
section
def b8b(F:Em X.prog X.w X.K X.mg X.base Ng k f fd ps sp)(hr:Ah k A)(hb:i6_)(e0:Os X.prog X.w X.K X.mg X.base A X.stack s H)
  (I:a_)(r:dZ!)(h:sp vs H Q E0):wpAny e! A tk_ au_ E s:=by
 have hl:(us++[]).length=O!:=by rw[IB,<-r.length];exact F.len _ _ _ _ h
 have ic:=hb s us I.kIn hl;rw[IB]at ic;refine wpAny_call (QA (F.run A X.stack s H cF! us vs Q E0 hr e0 ic r h) λr s' hq=>?_);cases r with
 |error e=>exact hq.elim
 |ok fl=>
  cases fl with
  |ret u=>exact I.after hq
  |next=>exact False.elim hq
  |brk=>exact False.elim hq
  |cont=>exact False.elim hq
def Kl:D->Option g9!
 |.tup [.int a,.int b]=>some fh!
 |_=>none
def a1b(I:a_)(sub:B!)(r:bx!)(e:Kl d=some fh!):Ga s.heap u a b:=by
 unfold Kl at e;show"!6"
 .cases e;obtain⟨v,r,ru⟩:=r;show"!Z";cases ru;show"!7";cases aX r1;cases aX r2;show"#:";obtain⟨x,y,rfl,⟨t,rfl⟩,⟨u,rfl⟩⟩:=uW rv;exact⟨p,o,n,t,u,rfl,Y,h2,h3⟩
 .cases e
def Ky(g:aZ_):List D->Option (List g9!)
 |[]=>some []
 |d::r=>(g [d]).bind λx=>(Kl x).bind λk=>(Ky g r).map (k::·)
def c7o(I:Inv X (h1++[dR!,(c,oc)]) Z H s)(hc:Eu X h1 H c)(jf:a≠c)(kp:∀b o,b≠c->s.heap.get? b=some o->h'.get? b=some o)(ho:h'.get? c=some oc')(hd:∀v,oc'.data≠.cell v):
  Inv X (h1++[dR!,(c,oc')]) Z H {s with heap:=h',toks:=t'}:=by
 have pa:=I.pin dR! (GV _ d_);have I1:Inv X pI! Z H s:=I.pins_of λp hp=>I.pin p (GV _ (by
  obtain z|z:=GS.mp hp
  .exact GU _ z
  .exact GV _ (by simp at z;simp[z])))
 have kj:∀b∈[c],Eu X pI! H b:=λb hb=>by
  have e:b=c:=by simpa using hb
  subst e;obtain⟨f0,f1,f2,f3,f4,f5⟩:=hc;refine⟨f0,f1,f2,f3,f4,bC!⟩;obtain z|z:=GS.mp hp
  .exact f5 p hC!
  .obtain z|z:=GS.mp z
   .exact f5 p hW_
   .have:p=dR!:=by simpa using z
    rw[this];exact jf
 have I2:Inv X pI! Z H {s with heap:=h',toks:=t'}:=gR I1 kj λb o hb e=>kp b o fE! e;refine I2.pins_of λp hp=>?_;obtain z|z:=GS.mp hp
 .exact I2.pin p (GV _ hC!)
 .obtain z|z:=GT.mp z
  .subst z;exact I2.pin _ fi_
  .have:p=(c,oc'):=by simpa using z
   subst this;exact⟨ho,hc.1,hc.2.1,hc.2.2.1,hd⟩
def vY(F:Cp_)(hr:pI_)(hb:i6_)(mf:O!=1)(jf:a≠c)
  (qq:∀x (R:ForInStep PUnit->Shared->Prop) s,wpAny e! X.A.in1.in1 (call ah_ [x]) (λk s'=>wpAny e! X.A.in1.in1 (Builtin.List.listUpdate aF_ (·.push k)) (λ_ s2=>R (.yield ⟨⟩) s2) E s') E s->wpAny e! X.A.in1.in1 (body x ⟨⟩) R E s):
  ∀{ds:b!} {us:j_} {kd:b!} {ku:j_} {n:Nat} {ks:pD_} {s:yM!} {G H:Hp},Inv X (h1++[dR!,Cq!]) Z H s->Ar G H->Paired c8! ds us->Paired c8! kd ku->Ky g ds=some ks->
   (∀H':Hp,H' c=none->Eu X h1 H' c)->pK!+e_<=1000->
   (∀s' H' G' sf ut n',Inv X (h1++[dR!,(c,seqObj "list" (ku++sf).toArray n')]) Z H' s'->Br G H G' H'->Paired (Bz X.K G') (kd++ut) (ku++sf)->Paired pL! ut ks->Q ⟨⟩ s')->
   wpAny e! X.A.in1.in1 (forIn us ⟨⟩ body) Q E s
 |_,_,kd,ku,n,ks,s,G,H,I,sub,.nil,pk,e,st,hl,hq=>by
  rw[OG];cases e;refine GP (hq s H G [] [] n ?_ aD! ?_ .nil)
  .rw[IB];exact I
  .rw[IB,IB];exact pk
 |d::ds,u::us,kd,ku,n,ks,s,G,H,I,sub,.cons r t,pk,e,st,hl,hq=>by
  show"!q";obtain⟨v,rv,ru⟩:=r;rw[LQ];simp only[HJ]at hl;refine GM (qq u _ s (cW (b8b (vs:=[v]) (Q:=λv' H'=>∃G',Br G H G' H'/\Aj X.K G' x v') F hr hb I.env0.in1.in1 I uE_ ⟨mf.symm,G,[d],x,sub,Af.cons rv Af.nil,e1,λv' G' H' x' r'=>⟨G',x',r'⟩⟩) ?_));rintro kv s1 ⟨v1,H1,I1,YQ,G1,x1,r1⟩;have pc:=I1.pin Cq! fi_;refine OT pc.1 rfl ?_ kD_ (by simp only[Array.size_push,GW];rw[JI];omega);have e4:=OC pc.1 (·.push kv);have I2:=c7o (oc':=seqObj "list" (ku++[kv]).toArray (if(ku.toArray.push kv).size==ku.toArray.size then n else n+1)) (t':=s1.toks) I1 (st H1 pc.2.1) jf (λb o hb e=>(uf_).trans e) (by rw[e4,List.push_toArray]) vR_;refine vY F hr hb mf jf qq I2 x1.sub (Paired.mapP t λ_ _ z=>z.mono x1.g) (lK (Paired.mapP pk λ_ _ z=>z.mono x1.g) (.cons ⟨v1,r1,YQ⟩ .nil)) e3 st A1! λs' H' G' sf ut n' I' x' p' k'=>?_;refine hq s' H' G' (kv::sf) (x::ut) n' ?_ (x1.trans x') ?_ (.cons e2 k')
  .rw[IY]at I';exact I'
  .rw[IY,IY]at p';exact p'
end
def Gv(g:aZ_)(d:D):Int×Int:=((g [d]).bind Kl).getD (0,0)
def tH:∀{ds:b!} {ks:pD_},Ky g ds=some ks->ks=ds.map fj!
 |[],_,e=>by cases e;rfl
 |d::r,ks,e=>by
  show"!q";rw[HD,<-tH e3];congr 1;unfold Gv;rw[e1];show q=(Kl x).getD _;rw[e2];rfl
section
variable{X:Cx}
def a1o{P:Value->D->Prop}{R:D->Value->Prop}(Y:Paired P ku ds):∀{us:j_},Paired R ds us->∀q∈(ha!).zip ds,P q.1.1 q.2/\R q.2 q.1.2:=by
 induction Y with
 |nil=>intro _ _ q h;simp at h
 |cons p t ih=>
  intro _ h2 q h;cases h2 with
  |cons r u=>
   rw[List.zip_cons_cons,List.zip_cons_cons]at h;obtain rfl|h:=GT.mp h
   .exact⟨p,r⟩
   .exact ih u q h
def iQ:∀{l:List γ},(∀q∈l,R (f q) (h q))->Paired R fj_ (l.map h)
 |[],_=>.nil
 |q::r,hh=>.cons (hh q (GR ..)) (iQ λz hz=>hh z kz_)
def gX(h:Paired R l m):bL!=m.length:=by
 induction h with
 |nil=>rfl
 |cons _ _ ih=>rw[HJ,HJ,ih]
def a1a(hp:∀d u a b,Bz X.K G d u->Kl d=some fh!->Ga h u a b)(Y:Cs_):∀{ds:b!},Paired pL! kd (ds.map kf)->Paired (λv d=>Ga h v (kf d).1 (kf d).2) ku ds:=by
 induction Y with
 |nil=>intro ds h;cases ds with|nil=>exact .nil|cons=>cases h
 |cons r t ih=>intro ds h;cases ds with|nil=>cases h|cons=>cases h with|cons k u=>exact .cons (hp _ _ _ _ r k) (ih u)
def c7j{st:SortSt}{us':j_}{ku:j_}(zc:(y_).map X_=n8_)(hz:us'.length<64)(UL:pK!<64)(hf:failedOf st=none)(jf:a≠c)
  (gi:pN!)(kj:Ct_)(I:Cv_)
  (hP:∀s' n',Inv X h1 Z H s'->s'.heap.get? a=some ha_->P hb! s'):wpAny e! A Cw! P E s:=by
 have pa:=I.pin kF! fi_;have pc:=I.pin Cu! fi_;unfold ksk_tail;show"#=";rw[zc];refine GM (OT pc.1 rfl ?_ kD_ bv!);refine GM (NO ?_);have ea:(s.heap.update c Cw_).get? a=some pO_:=(IG _ _ (IA jf)).trans pa.1;refine GM (seqEpoch_at ea rfl ?_);show"!v";refine GM (OT ea rfl ?_ bv! kD_);rw[hf];simp only[RF,HX,IU];have I1:Inv X h1 Z H s:=I.unpinned;refine GP (hP _ _ (gR (wr:=[a,c]) (t':=s.toks) I1 fx_ λb o hb q=>?_) (OC ea λ_=>n8_))
 .obtain rfl|hb:=GT.mp hb
  .exact gi H pa.2.1
  .rw[hc_];exact kj H pc.2.1
 .have Y:b≠a:=λz=>hb (by rw[z];exact GR ..);have h2:b≠c:=λz=>hb (by rw[z];exact GO _ (GR ..));exact(IG _ _ (IA Y)).trans ((IG _ _ (IA h2)).trans q)
def c9q{ds:b!}(pv:e_<64)(nd:(Cy!).Nodup)(jf:a≠c)
  (gi:pN!)(kj:Ct_)(I:Cv_)(sub:B!)
  (pu:pQ!)(pk:Cs_)(kk:Paired pL! kd Cy!)
  (hP:∀s' us' n',Inv X h1 Z H s'->Paired c8! pQ_ us'->s'.heap.get? a=some ha_->P hb! s'):wpAny e! A (ksk_end a false us.toArray e1 aF_ ku.toArray) P E s:=by
 have z:=a1a (X:=X) (h:=s.heap) (λd u a b r q=>a1b I sub r q) pk kk;have l1:W_=e_:=(gX pu).symm;have l2:pK!=e_:=gX z;have mem:=a1o z pu;have ii:(kG!).toList=(kG_).map c_:=by
  rw[ksk_zip,Cz!]
 have hd:(kG_).map X_=ds:=List.map_snd_zip pR_;have ag:∀{L':pS_} {st:SortSt},L'.Perm kG_->(y_).toList=L'.map c_->L'.map X_=Gp fj! ds->failedOf st=none->wpAny e! A Cw! P E s:=λ{L' st} Y h2 h3 h4=>by
  refine c7j (us':=L'.map (·.1.2)) ?_ (by rw[GY,Y.length_eq,JZ,JZ];omega) a! h4 jf gi kj I λs' n' I' e'=>hP s' _ n' I' ?_ e'
  .apply Cz_;rw[Array.toList_map,h2,JJ];rfl
  .rw[<-h3];exact iQ λq hq=>(mem q (Y.mem_iff.mp hq)).2
 unfold ksk_end;show"#=";show"!v";by_cases h2:jr!<2
 .rw[HC h2,HC h2];refine GM K_;rw[StateT.run_pure];show"!R";refine ag (L':=(ha!).zip ds) (OH _) ii ?_ rfl;rw[hd];rw[GW,l1]at h2
  match ds,h2 with
  |[],_=>rfl
  |[x],_=>rfl
  |_::_::r,h2=>simp at h2;omega
 .rw[HA h2,HA h2];rw[GW]at h2;refine GM (a1s (vs:=ku) CA_ (λz=>by rw[z]at l2;simp at l2;omega) ?_)
  .show"!f"
  .have hsz:(kG!).size=e_:=by rw[<-JE,ii,GY,JZ,JZ];omega
   have hk:∀q∈(ha!).zip ds,Ga s.heap q.1.1 (pT_).1 (pT_).2:=λq hq=>(mem q hq).1;have mw:(hd_).Nodup:=by rw[hd];exact nd
   refine GM (JS (b1v (kd:=Wm true) (a0:=ku.toArray.zip cf!) (r:=λp=>Hn hd_ CC!) (Q:=λ_ ac=>(w_).Perm kG!/\failedOf ac=none/\Up (λp=>Hn hd_ CC!) w_ (kG!).size)
    (CC_) CD! CD_ CE! λac a1 a2 a3=>CE_) ?_ λ_ _ e=>e)
   .rw[ii]at hx hy;obtain⟨p,hp,rfl⟩:=HI.mp hx;obtain⟨q,bg,rfl⟩:=HI.mp hy;refine tI kH! kH_ ?_;have mm:∀p∈(ha!).zip ds,Gv g p.2∈(CB!).map fj!:=λp hp=>HH (HH hp);have hh:decide CF!=Lm (Gv g p.2) pT_:=by
     show"#F"
    have mz:Q (decide CF!) s:=hq;rw[hh]at mz;exact mz
   .show"!F";exact ag b1 b2 CG! a2
def c7h(F:Cp_)(hr:pI_)(hb:i6_)(mf:O!=1)
  (I:a_)(sub:B!)(pu:pQ!)(ha:CG_)(jw:hq_)
  (gi:pN!)(ek:Ky g ds=some ks)(nd:gM_)(pv:e_<64)
  (hP:∀s' H' G' us' n',Inv X h1 Z H' s'->Br G H G' H'->Paired (Bz X.K G') pQ_ us'->H' a=none->s'.heap.get? a=some ha_->P hb! s'):
  wpAny e! X.A.in1.in1 (ksk_tree a ah_ false) P E s:=by
 have l1:W_=e_:=(gX pu).symm;have YR:=tH ek;obtain⟨e1,uv⟩:∃e1,(s.heap.update a (Obj.mapSeq λ_=>(#[]:Array Value))).get? a=some (seqObj "list" #[] e1):=CH!;unfold ksk_tree;refine GM CH_;refine GM CJ!;refine GM CI_;refine GM CJ_;refine GM pV!;refine IR ?_;have hsz:(bY!).objs.size=g_+1:=by rw[size_push',Heap.size_update]
 show wpAny _ _ (ksk_rest a ah_ false us.toArray e1 (.ref (bY!).objs.size)) P E {s with heap:=(bY!).push bY_};have gn:(pV_).get? (bY!).objs.size=some bY_:=HM _ rfl;rw[hsz]at gn ⊢;have jf:a≠g_+1:=IH (PQ (HP ha));have kj:∀H':Hp,H' Y!=none->Eu X h1 H' Y!:=λH' q=>I.fpOk (JW _) q;have m7:(pV_).get? a=some pO_:=GQ _ (GQ _ uv);have I1:Inv X h1 Z H {s with heap:=(bY!).push bY_}:=
  gR (wr:=[a]) (t':=s.toks) I (λb hb=>by rw[hc_];exact gi H jw) λb o hb q=>GQ _ CL!
 have fa:=gi H jw;have fc:=kj H tp_;have I2:Inv X (h1++[kF!,(g_+1,seqObj "list" (vQ_).toArray 0)]) Z H {s with heap:=(bY!).push bY_}:=I1.pins_of λp hp=>by
  obtain z|z:=GS.mp hp
  .exact I1.pin p hW_
  .obtain rfl|z:=GT.mp z
   .exact⟨m7,jw,fa.2.1,fa.2.2.1,ge_⟩
   .rw[a7!];exact⟨gn,fc.1,fc.2.1,fc.2.2.1,ge_⟩
 generalize g_+1=c at *;unfold ksk_rest;refine GM eV_
 first
  |rw[List.forIn_toArray]
  |(rw[<-Array.forIn_toList];simp only[List.toList_toArray])
  |rw[<-Array.forIn_toList]
 refine GM (JS (vY (E:=vT!) (Q:=λ_ s'=>wpAny e! X.A.in1.in1 _ P E s') F hr hb mf jf (λx R s' hx=>?_) I2 sub pu .nil ek kj (by rw[QH];omega) λs' H' G' sf ut n' I' x' p' k'=>?_) Cb! λ_ _ z=>z.elim)
 .refine GM (ML (JS hx (λkv s2 hk=>?_) λ_ _ z=>z.elim));show"#=";exact GM (JS hk (λ_ s3 z=>GP z) λ_ _ z=>z)
 .rw[JY]at I';rw[JY,JY]at p';have pc:=I'.pin (c,seqObj "list" sf.toArray n') fi_;have pa:=I'.pin kF! fi_;refine GM (QR pc.1 rfl ?_);rw[YR]at k' nd;exact c9q pv nd jf gi kj I' x'.sub (Paired.mapP pu λ_ _ z=>z.mono x'.g) p' k' λs3 us' n3 I3 p3 e3=>hP s3 H' G' us' n3 I3 x' p3 pa.2.1 e3
def Yo(g:aZ_)(ds:b!):Option as_:=(Ky g ds).bind λks=>if gM_/\e_<64 then some pQ_ else none
def Ss(g:aZ_)(fa:i_):Ab->Option D:=λρ=>(eG_).bind λd=>match d with
 |.lst ds=>(Yo g ds).map D.lst
 |_=>none
def jW:∀{ds:b!} {vs:o!} {us:j_},Af KF G ds vs->Aq vs us->Paired fk_ ds us
 |[],vs,us,r,p=>by cases bY r;cases p;exact .nil
 |d::ds,vs,us,r,p=>by
  obtain⟨v,t,rfl,r1,r2⟩:=bE r;cases p with
  |cons a b=>exact .cons ⟨v,r1,a⟩ (jW r2 b)
def pS(h:Paired fk_ ds us):∃vs,Af KF G ds vs/\Aq vs us:=by
 induction h with
 |nil=>exact⟨[],Af.nil,.nil⟩
 |cons p _ ih=>
  obtain⟨v,r,p⟩:=p;obtain⟨vs,r2,p2⟩:=ih;exact⟨v::vs,Af.cons r r2,.cons p p2⟩
def a6b(I0:Inv X h1 Z H0 s0)(I:a_)(sub:B!)(hs:BH!<=a)(pu:Paired c8! ds us')(hz:e_<=sizeLine)(ho:s.heap.get? a=some ha_)(hn:hq_)
  (hQ:∀v G' H',Br G H G' H'->Aj X.K G' cg_ v->Q v H'):EP X h1 Z Q E! s:=by
 obtain⟨vs,r,p⟩:=pS pu;have f:=I0.fpOk hs hn;refine⟨bb!,upd H a ch_,I.track ho p (by rw[<-aH r];exact hz) hn ?_ f.2.1 f.2.2.2.2.1 f.2.2.2.2.2,rfl,hQ _ _ _ (Br.laid sub hn) ?_⟩
 .exact IL I0.sz hs
 .exact Aj.lst (Ef.of bK) (r.mono (λb u e=>by rw[aW (λz=>by rw[z]at e;rw[sub _ _ e]at hn;cases hn)];exact e))
def wO:bootBuiltins "sorted"=some kI_:=by decide+kernel
def wV{us:j_}(hl:CP!)(hz:W_<64)
  (h:wpAny e! X.A.in1.in1 (ksk_tree Y! ah_ false) (λag s'=>∃v,ag=.done (.ret v)/\Q (.ref Y!) s') E {s with heap:=(kJ!).push kJ_}):
  wpAny e! X.A (call kI_ [hf_] [(Str.ofString "key",.ref f)]) Q E s:=by
 refine call_function_entry_kw kind_sorted plain_sorted entry_sorted (zX _ _) ?_;unfold Builtin.«sorted»;refine GM (m:=CP_) K_;refine GM (collect_list hl ?_ CQ!);refine GM (QN ?_ CQ!);have hsz:(kJ!).objs.size=g_+1:=by
  rw[Heap.size_update,size_push']
 have lj:((kJ!).push kJ_).get? Y!=some kJ_:=by
  rw[<-hsz];exact HM _ rfl
 show wpAny _ _ _ _ _ {s with heap:=(kJ!).push kJ_};rw[hsz];refine GM (IR (wpAny_call_entry_kw slot_list_sort CQ_ entry_list_sort ?body (a5s _ _)))
 case body=>
  rw[ksk_t1];refine JS h (λag s' hq=>?_) λ_ _ z=>z;obtain⟨v,rfl,hq⟩:=hq;exact⟨v,rfl,GP ⟨_,rfl,hq⟩⟩
variable{pos p p2 kp:Pos}
def b6n{ps:D!}(F:yh!)(hr:pI_)(YS:D_)(YT:Gl X "sorted")(zd:X.mg "sorted"=none)(ha:DE X own e fa)(mf:O!=1:=by rfl)(au:x!:=by decide)
  (he:jm!:=by rfl):
  DE X own (.Call (.Name "sorted" p) [e] [⟨some "key",jb_,kp⟩] pos) (Ss g fa):=⟨by
 obtain⟨af,fd,Y,h2,h3,h4⟩:=F;rintro h1 s Z H Q I ⟨G,ρ,d,er,e1,kq⟩;obtain⟨d0,e2,e1⟩:=GN.mp e1;cases d0 with
 |lst ds=>
  obtain⟨q9,e3,rfl⟩:=GX.mp e1;obtain⟨ks,e4,e5⟩:=GN.mp e3;have rh:gM_/\e_<64:=by
   by_cases z:gM_/\e_<64
   .exact z
   .rw[HA z]at e5;cases e5
  rw[HC rh]at e5;cases e5;have da:=(aC ha aK he).ok;refine LL (iD I YT zd wO ?_ b_ b_);refine callWith_kw (cW (da pos h1 s Z H _ I ⟨G,ρ,[.lst ds],er,by unfold aCons aNil;rw[e2];rfl,λvs G1 H1 x1 r1=>(⟨G1,x1,r1⟩:∃G1,Br G H G1 H1/\Af X.K G1 [.lst ds] vs)⟩) ?_) kK! kK! rfl rfl;rintro us s1 ⟨vs,H1,I1,r,G1,x1,r1⟩;refine kws_cons (gV I1 YS h3 CR_ au);obtain⟨v,t,rfl,rv,rr⟩:=bE r1;cases bY rr;obtain⟨l,xs,rfl,sq,rx⟩:=bJ rv;obtain⟨its,hv,pl,hz⟩:=I1.list CS!;cases r with
  |cons ra rb=>
   cases rb;cases ra;show wpAny e! X.A (call kI_ [hf_] [(Str.ofString "key",.ref af)]) _ _ s1;have lz:f3!=e_:=by rw[<-hv.length,<-aH rx]
   obtain⟨nn,sl,ho⟩:=lP pl;refine wV (us:=its) ⟨_,ho,rfl,nn,rfl⟩ (by rw[lz];exact rh.2) ?_;have keep:∀b o,s1.heap.get? b=some o->(CU!).get? b=some o:=λb o q=>by
    have ai:b<x_:=HP q;exact GQ _ ((Heap.get?_update_ne _ _ _ _ (IH ai)).trans ((Heap.get?_push_ne _ _ _ (IH ai)).trans q))
   have hsz:(CS_).objs.size=x_+1:=by
    rw[Heap.size_update,size_push']
   have lj:(CU!).get? (x_+1)=some CT!:=by
    rw[<-hsz];exact HM _ rfl
   have I2:=I1.kept (t':=s1.toks) keep;have bo:x_<=x_+1:=JW _;refine c7h Y hr h2 mf I2 x1.sub (jW rx hv) lj (I1.hok.fresh bo) (λH' q=>I1.fpOk bo q) e4 rh.1 rh.2 λs3 H3 G3 us3 n3 I3 x3 p3 YU ze=>om_;exact a6b I1 I3 x3.sub bo p3 CU_ ze YU λv G4 H4 x4 r4=>kq v G4 H4 (x1.trans (x3.trans x4)) r4
 |_=>cases e1⟩
end
def b7t(hd:Bw_):W.KdlSrc P w "dict" d d es.length ph! (λh=>Lz h d es ep) where
 type:=λ_ hm=>hm.typeIs
 there:=λ_ hm=>let⟨_,ho,_⟩:=hm;⟨HP ho,HP ho⟩
 keep:=λ_ _ hm hk=>hm.at λo e=>hk d al_ o e
 notList:=by decide
 notTuple:=by decide
 hint:=λ_ _ _ _ hm hq=>W.kdl_hint_dict hm.typeIs hq
 iter:=λ_ _ hh hm=>⟨_,_,(λ_ _ hq=>b5h hd hm hq),a8n hh _ d (let⟨_,ho,_⟩:=hm;IH hv!) es ep,⟨d5!,hm.at λo e=>GQ _ e⟩⟩
section
def c5b(ok:e1_)(hi:CW_):Paired fk_ dH! pX_:=by
 have ea:pX_=es.map jR!:=by
  apply CX!;intro i;rw[IK];by_cases h:i<aa_
  .have Y:i<acc.size:=by rw[hi.1];exact h
   show"!}"
  .rw[CY!,KD a!];rfl
 rw[ea];have:∀{σ:p_} {es:co_},Paired CY_ σ es->Paired fk_ dH! hg!:=λ{σ es} h=>by
  induction h with
  |nil=>exact .nil
  |cons a _ ih=>exact .cons a ih
 exact this CZ!
nonrec def kf2(d:D):Int×Int:=(Kl d).getD (0,0)
def Vb(ds:b!):Option as_:=if pY!=true/\(pY_).Nodup/\e_<64 then some pZ! else none
def c7g(I:a_)(sub:B!)(pu:pQ!)(ha:CG_)(jw:hq_)
  (gi:Eu X h1 H a)(ek:pY!=true)(nd:(pY_).Nodup)(pv:e_<64)
  (hP:∀s' us' n',Inv X h1 Z H s'->Paired c8! pZ! us'->s'.heap.get? a=some ha_->P hb! s'):
  wpAny e! A (Builtin.«list.sort» m0!) P E s:=by
 have l1:W_=e_:=(gX pu).symm;obtain⟨e1,uv⟩:∃e1,(s.heap.update a (Obj.mapSeq λ_=>(#[]:Array Value))).get? a=some (seqObj "list" #[] e1):=CH!;rw[list_sort_plain];refine GM CH_;refine GM CJ!;refine GM CI_;refine GM CJ_;refine GM pV!;refine IR ?_;show wpAny _ _ _ P E {s with heap:=(bY!).push bY_};have I1:Inv X h1 Z H {s with heap:=(bY!).push bY_}:=
  gR (wr:=[a]) (t':=s.toks) I C0! λb o hb q=>GQ _ CL!
 have m7:(pV_).get? a=some pO_:=GQ _ (GQ _ uv);generalize (bY!).push bY_=h3 at I1 m7 ⊢;have pk:∀d∈ds,Kl d=some kK_:=λd hd=>by
  have:=KO.mp ek d hd;unfold kf2;cases q:Kl d with
  |none=>rw[q]at this;cases this
  |some z=>rfl
 have z:Paired C0_ us ds:=by
  have gen:∀{ds:b!} {us:j_},Paired c8! ds us->(∀d∈ds,Kl d=some kK_)->Paired C0_ us ds:=λ{ds us} h=>by
   induction h with
   |nil=>exact λ_=>.nil
   |cons r _ ih=>exact λhk=>.cons (a1b I1 sub r (hk _ (GR ..))) (ih λd hd=>hk d (GO _ hd))
  exact gen pu pk
 have mem:=a1o z pu;have ii:(hg_).toList=(hh_).map c_:=by
  rw[ksk_zip,Cz!]
 have hd:(hh_).map X_=ds:=List.map_snd_zip pR_;have ag:∀{L':pS_} {st:SortSt},L'.Perm hh_->(y_).toList=L'.map c_->L'.map X_=Gp kf2 ds->failedOf st=none->
   P hb! {s with heap:=h3.update a (Obj.mapSeq λ_=>(y_).map X_)}:=λ{L' st} b1 b2 b3 b4=>by
  have zc:(y_).map X_=(C1_).toArray:=by
   apply Cz_;rw[Array.toList_map,b2,JJ];rfl
  rw[zc];refine hP _ _ _ (gR (s:={s with heap:=h3}) (wr:=[a]) (t':=s.toks) I1 C0! λb o hb q=>(CK_).trans q) ?_ (OC m7 λ_=>(C1_).toArray);rw[<-b3];exact iQ λq hq=>(mem q (b1.mem_iff.mp hq)).2
 have UT:∀{L':pS_} {st:SortSt},L'.Perm hh_->(y_).toList=L'.map c_->((y_).map X_).size<=sizeLine+1:=λ{L' st} b1 b2=>by
  rw[Array.size_map,<-JE,b2,GY,b1.length_eq,JZ,JZ,JI];omega
 by_cases h2:jr!<2
 .rw[HC h2,HC h2];show"!R";rw[StateT.run_pure];show"!R";refine GM C2!;refine GM (OT m7 rfl ?_ bv! (UT (L':=(hh!).zip ds) (OH _) ii));simp only[failedOf,RF,HX,IU];refine GP (ag (L':=(hh!).zip ds) (st:=SortSt.mk' general' hg_ #[] 7 none) (OH _) ii ?_ rfl);rw[hd];rw[GW,l1]at h2
  match ds,h2 with
  |[],_=>rfl
  |[x],_=>rfl
  |_::_::r,h2=>simp at h2;omega
 .rw[HA h2,HA h2];rw[GW]at h2;refine GM (a1s (vs:=us) CA_ (λz=>by rw[z]at h2;simp at h2) ?_)
  .show"!f"
  .have hsz:(hg_).size=e_:=by rw[<-JE,ii,GY,JZ,JZ];omega
   have hk:∀q∈(hh!).zip ds,Ga h3 q.1.1 (pZ_).1 (pZ_).2:=λq hq=>(mem q hq).1;have mw:(hi!).Nodup:=by rw[hd];exact nd
   refine GM (JS (b1v (kd:=Wm true) (a0:=us.toArray.zip cf!) (r:=λp=>Hn hi! (Jq h3 p.1)) (Q:=λ_ ac=>(w_).Perm hg_/\failedOf ac=none/\Up (λp=>Hn hi! (Jq h3 p.1)) w_ (hg_).size)
    (CC_) CD! CD_ CE! λac a1 a2 a3=>CE_) ?_ λ_ _ e=>e)
   .rw[ii]at hx hy;obtain⟨p,hp,rfl⟩:=HI.mp hx;obtain⟨q,bg,rfl⟩:=HI.mp hy;refine tI kH! kH_ ?_;have mm:∀p∈(hh!).zip ds,kf2 p.2∈(C3!).map kf2:=λp hp=>HH (HH hp);have hh:decide C4_=Lm (kf2 p.2) pZ_:=by
     show"#F"
    have mz:Q (decide C4_) {s with heap:=h3}:=hq;rw[hh]at mz;exact mz
   .show"!F";refine GM C2!;refine GM (OT m7 rfl ?_ bv! (UT b1 b2));rw[a2];simp only[RF,HX,IU];exact GP (ag b1 b2 CG! a2)
def a1w{es:co_}(hi:CW_):pX_=es.map jR!:=by
 apply CX!;intro i;rw[IK];by_cases h:i<aa_
 .have Y:i<acc.size:=by rw[hi.1];exact h
  show"!}"
 .rw[CY!,KD a!];rfl
def EE(M:Mh):List D->Option D
 |[d]=>(Dl M d).map λq=>.lst km!
 |_=>none
def b0c(ok:e1_):∃ys,Af KF G dH! ys/\Aq ys hg!:=by
 have:∀{σ:p_} {es:co_},Paired CY_ σ es->Paired fk_ dH! hg!:=λ{σ es} h=>by
  induction h with
  |nil=>exact .nil
  |cons a _ ih=>exact .cons a ih
 exact pS (this CZ!)
def Vc(KF:zr!):List V->Hp->VK->Prop:=λxs H Q=>∃G ds,Ar G H/\(∃d es ep,xs=[.ref d]/\H d=some dN!/\Paired fk_ ds hg!)/\pY!=true/\(pY_).Nodup/\e_<64/\∀v G' H',Br G H G' H'->Aj KF G' (.lst pZ!) v->Q v H'
def uS(hc:aq_):Hb X kI_ (Vc X.K):=by
 rintro h1 s Z H xs us Q I r ⟨G,ds,sub,⟨d,es,ep,e1,e2,hv⟩,q1,q2,q3,k⟩;subst e1;cases r with
 |cons ra rb=>
  cases rb;cases ra;obtain⟨⟨h3,h4,h5⟩,_⟩:=(show Dp X.prog X.w H s.heap d dN! from I.hok d _ e2);have lz:aa_=e_:=by rw[gX hv,GY]
  refine Calls.call_function_entry kind_sorted plain_sorted entry_sorted (args_sorted1 _) ?_;unfold Builtin.«sorted»;refine GM (m:=CP_) K_;refine GM (W.kdu_collect (b7t h4) a9_ h3 gR! λh' tk acc hk hi=>?_);have ia:=a1w hi;refine GM (QN ?_ (by rw[ia,GY,JI];omega));rw[ia];have I1:=I.kept (t':=tk) hk;have lj:(h'.push kL_).get? hi_=some kL_:=HM _ rfl;have I2:Inv X h1 Z H {s with heap:=h'.push kL_,toks:=tk}:=I1.kept (t':=tk) λb u q=>GQ _ q;have hn:H hi_=none:=I1.hok.fresh u!;refine GM (IR (IT slot_list_sort CQ_ entry_list_sort ?body (args_list_sort _)))
  case body=>
   refine c7g (s:={s with heap:=h'.push kL_,toks:=tk}) I2 sub hv lj hn (I1.fpOk u! hn) q1 q2 q3 λs3 us3 n3 I3 p3 ze=>⟨_,rfl,GP om_⟩;exact a6b I1 I3 sub u! p3 CU_ ze hn k
def Px(M:Mh):List D->Option D
 |[d]=>(Dl M d).bind λq=>(Vb km!).map D.lst
 |_=>none
def b6w:Pm P w KF (Vc KF) Px:=by
 show"#'";unfold Px at e;show"!6"
 .obtain⟨q,e1,e⟩:=GN.mp e;obtain⟨l,e2,rfl⟩:=GX.mp e;unfold Vb at e2;split at e2
  .rename_i hz;cases e2;obtain⟨v,rfl,r1⟩:=eP r;obtain⟨rfl,rfl,hM⟩:=bZ r1 e1;obtain⟨es,Y,h2⟩:=(m.cell q.1 _ hM).2;obtain⟨ys,g1,g2⟩:=b0c h2;exact⟨G,_,sub,⟨q.1,es,q.2.2,rfl,Y,jW g1 g2⟩,hz.1,hz.2.1,hz.2.2,k⟩
  .cases e2
 .cases e
end
def Uc(M:Mh):D->D
 |.fn a=>match M a with|some (.lst xs)=>.lst xs|_=>.fn a
 |d=>d
def Vn(M:Mh)(x y:D):Option D:=Ed (Uc M x) (Uc M y)
def a6i(sub:B!)(m:bx_)(r:bR!):Aj KF H (Uc M d) v:=by
 cases d<;>first|exact r.mono sub|skip
 rename_i a;simp only[Uc];split
 .rename_i xs hM;show"!w";cases fH r;exact Aj.lst (Ef.of Y) (h2.mono sub)
 .exact r.mono sub
def b3j:Wk P w KF (Yq KF) Vn:=by
 show"!b";unfold Vn Ed at e;show"!6"
 .show"!t";cases e;exact⟨_,_,a6i sub m rx,a6i sub m ry,h.1.1,h.1.2,h.2,eN!⟩
 .cases e
def Dk(KF:zr!)(C:yz!)(m qual:Str)(st:Stmt)(ps:D!):Prop:=∃af fd,Wb KF m qual st af fd/\Ec KF fd ps []/\Vy KF C m af
def Rx(KF:zr!)(mg:L!)(x:Str)(C:yz!)(qual:Str)(st:Stmt)(ps:D!):Prop:=mg x=some H_/\∃af fd,Wb KF "__init__" qual st af fd/\Ec KF fd ps []/\Mk KF C af
section
variable{st:Stmt}
def eF(d:ot_)(S:cK!)
  (hb:∀{af:yz!} {ah:yB!} {A:yA!} {outer:ai!} {s:yM!} {H:Hp} {E:XK},Ah k jK!->N.Nodup->Ry (ou!).nox [] [] be! q):
  Ou P w KF mg base S_ x ps kk!:=by
 obtain⟨af,fd,F,B,m⟩:=d;exact⟨af,fd,p2_,B,m,F.kp⟩
def dA(c:Rz KF C)(d:Dk KF C x qual st ps)(S:cK!)
  (hb:C7!):
  Et P w KF mg base S_ C x ps kk!:=by
 obtain⟨af,fd,F,B,m⟩:=d;exact⟨c,af,fd,m,p2_,B⟩
def xL(d:Rx KF mg x C qual st ps)(S:cK!)
  (hb:C7!):
  Uk P w KF mg base S_ x C ps kk!:=by
 obtain⟨m,af,fd,F,B,mk⟩:=d;exact⟨m,af,fd,mk,p2_,B⟩
def eW{kV:yB!}
  (a:W.findIn KF H_ x=some d9!)(i:l7_)(l:vg!)
  (c:il!)(k:f8!)
  (b:ve_):Dk KF C x qual st ps:=
 ⟨f,_,jK_,ow!,⟨a,i,k⟩⟩
def b4e{kV:yB!}(m:mg x=some H_)
  (a:sR_)(i:l7_)(l:KF.lookup f=some ⟨oc,od,.func C8!,iq⟩)
  (c:il!)(k:f8!)(mm:sR!)(kc:W.keepIn KF H_=true)
  (b:∀(kV bn pm:yB!) (an:ez!) (ah ct:yB!) (us:j_),W_=O!->bindArgs C8! cF!=pure cE_):Rx KF mg x C qual st ps:=
 ⟨m,f,_,jK_,ow!,⟨mm,a,i,kc⟩⟩
def b9s(hd:Zg KF mg x st [y])(S:Ep N [y] aY!)(gi:mg x=some ew_)
  (hb:∀(base:Heap) (af:yz!) (ah:yB!) (A:yA!) (outer:ai!) (s:yM!) (H:Hp) (E:XK),Ah k jK!->Ry (ou!).nox [] cu be! q):
  ∃fd:FuncData,(∀(s:yM!) (u:yB!),BindsTo s fd iI! [(y,u)])/\∀base:Heap,KF.In base->base.Ns mainGlobals mg->Em P w KF mg base Ng S_ fa fd [y] (Wx P w KF 1 (Cj N 1 q)):=by
 obtain⟨f,fd,F,B,m⟩:=hd;rw[gi]at m;cases m;exact⟨fd,λs u=>.of_eq (B [u] rfl),λbase _ _=>rH F S λah A outer s H E hr=>hb base _ ah A outer s H E hr⟩
def usS{p:fl_}(h:∀a us,W_=n->p (a::us))(us:ad_)(e:W_=n+1):p us:=by
 cases us with
 |nil=>cases e
 |cons a us=>exact h a us (Nat.succ.inj e)
def mF{p:fl_}(h:∀a,p [a]):∀us:List α,W_=1->p us:=usS λa us e=>by cases us with|nil=>exact h a|cons=>cases e
def oJ{p:fl_}(h:∀a b,p aJ!):∀us:List α,W_=2->p us:=usS λa=>mF (h a)
def us3{p:fl_}(h:∀a b c,p [a,b,c]):∀us:List α,W_=3->p us:=usS λa=>oJ (h a)
def us4{p:fl_}(h:∀a b c d,p [a,b,c,d]):∀us:List α,W_=4->p us:=usS λa=>us3 (h a)
def us5{p:fl_}(h:∀a b c d e,p [a,b,c,d,e]):∀us:List α,W_=5->p us:=usS λa=>us4 (h a)
def M0:Mh:=λ_=>none
def b9r{ns:v_}(hS:Ef KF H a cJ_)(hg:g p3_ M0 λd _=>d=.bl true):Wx P w KF 1 g bE_ H iI_ λ_ _ _=>False:=
 ⟨rfl,H,p3_,M0,_,Ar.refl H,⟨λa c e=>by cases e⟩,Af.cons (Aj.lst hS (wC ns)) Af.nil,hg,λd M' v G' H' r _ _ q=>by subst r;exact cR q⟩
end
end DL
namespace L2
open PySem PySem.Spec PyProof.Rows
def b8f
  (hN:aH!)(c6:ac!)(hx:aS_)
  (cx:cM!)(cj:cM_)(j4:∀y∈bO!,y.2=.local->scope.names.lookup y.1=some .local)
  (g6:gf!)(cap:cL_)(calm:aq_)(al:lN!)
  (hg:gf_)(hi:v0_)(he:v1!)
  (hs:b5_:=by intro _;rfl)
  (gu:swapsWith kN_ (some hP_) pos.line X.env=pure true:=by rfl)
  (hf:X.fn x=true\/X.env.scope.names.lookup x=some .local:=by first|exact .inl rfl|exact .inr rfl|assumption):
  PS X (.Assign rN! kN_ pos) (Ym v1_ d3!):=by
 intro h1 s Z H D I h;show"!a"
 rw[exec_Assign_Name_used x pos' _ pos gu];refine GM (QM h4!);unfold evalThenUse;refine GM (wpAny_comprehension_free (use:=some _) rfl hs ce.eq cx j4 v3!);obtain⟨it,fp,tn,J,H2,e,I2,T,bh,f2,hw⟩:=h2;subst e;refine wK (RR:=λacc C=>compPost e! X.A X.xe (some _) _ acc C) cx cj ce cap calm (hg cl) (hi cl) (he cl) I2 T bh f2 hw λD' C us n ys H' s' I' eD rv ay nD hD hC jm nC ⟨m,hn⟩ ag=>?_;have fm:∀b,b<I!->b≠C/\b≠D':=λb hb=>v6!;have q8:∀x c,X.env.cells.lookup x=some c->c<I!:=λx c h=>let⟨_,_,ho,_⟩:=I2.cell x c h;HP ho;have t9:∀p∈X.pn++h1,p.1<I!:=λp hp=>HP (Ck!).1;have ID:=I'.track (D:=D') (us:=us) (n:=n) eD rv ay nD wb! (IA (gg!).2) wc! λp hp=>(iV_).2;show wpAny e! X.A (assign hP_ X.env (.ref D')) _ _ s';refine GM (m:=standAt pos') (QM ?_);refine wpAny_bindName (uY ID hN c6 hx (v:=.ref D') rfl (λs3 I3 ⟨a,sb,ha⟩=>?_) hf);have YV:a≠C:=by
  obtain rfl|ha:=ha
  .exact(gg!).1
  .exact(fm _ (q8 _ _ ha)).1
 refine⟨m,hn.sameBut sb (IA YV),v4_⟩;have YW:upd H' D' aX_ C=none:=by rw[aW (IA jm)];exact nC
 have IC:Inv X h1 (Z.set i (some (.ref D'))) (upd H' D' aX_) {s3 with heap:=h',toks:=s3.toks}:=I3.turned (it:=C) v7! YW (IA (gg!).1) v9! wa_ λp hp=>(iV_).1;exact GP (GP ⟨_,_,IC,ag D' nD⟩)
end L2
namespace DL
open PySem PySem.Spec PyProof.Rows L2
section
def qW{pos:Pos}
  (hN:aH!)(c6:ac!)(hx:aS_)
  (cx:cM!)(cj:cM_)(j4:∀y∈bO!,y.2=.local->scope.names.lookup y.1=some .local)
  (g6:gf!)(cap:cL_)(hix:i1!)(calm:aq_)(al:kj!)
  (hg:gf_)(j8:nW!)(hi:Bq!)(he:Bq_)
  (bx:aC!:=by decide)(hs:b5_:=by intro _;rfl)
  (gu:swapsWith kN_ (some cR!) pos.line X.env=pure true:=by rfl)
  (hf:X.fn x=true\/X.env.scope.names.lookup x=some .local:=by first|exact .inl rfl|exact .inr rfl|assumption):
  MS X own own (.Assign eM! kN_ pos) (Ai i Br!):=
 nB (b8f hN c6 hx cx cj j4 g6 cap calm al.ok hg hi xC! hs gu hf) λM0 G0 F0 E Z G H ρ M R sr e k1 k2=>⟨G,ρ,M,_,sr.st,e,λds ck M1 J G1 H1 r1 x1 m1 dr=>by
  obtain⟨hb,r1⟩:=r1;have qu:=sr.st.grow x1 m1;refine a8b hb dr j8 Br_ r1 λjo ys M' G' H' r x m q _ p hp=>?_;exact k1 _ M' _ _ _ r ((((Bd!).grow x m).grow (.ext gs_) (m.ext gs_)).set bx (cQ nX! q))⟩
end
end DL
namespace DL
open PySem PySem.Spec PyProof.Rows L2
section
variable{X:Cx}{own:List Nat}{e a b o tg:Expr}{pos p2 p bf ak:Pos}{f fa fb fo:WE}
nonrec def lstM(M:Mh)(d:D):Option as_:=match d with
 |.lst xs=>some xs
 |.fn p=>(match M p with|some (.lst xs)=>some xs|_=>none)
 |_=>none
def a7g{KF:zr!}{M:Mh}{G H:Hp}(sub:B!)(m:bx_)(r:bR!)(e:lstM M d=some xs):∃p vs,v=.ref p/\Ef KF H p vs/\Af KF G xs vs:=by
 cases d<;>first|(cases e;done)|skip
 .cases e;obtain⟨p,vs,rfl,q,rr⟩:=bJ r;exact⟨p,vs,rfl,i9!,rr⟩
 .show"#H";simp only[lstM]at e;show"!6"
  .rename_i xs hM;cases e;obtain⟨_,vs,Y,h2⟩:=m.cell p _ hM;exact⟨p,vs,rfl,kb!,h2⟩
  .cases e
def Qs(fa fb:WE):WE:=λρ M R=>fa ρ M λx M1=>fb ρ M1 λy M2=>Du (lstM M2 x) λxs=>Du (lstM M2 y) λys=>g!+P!<=big/\∀p,M2 p=none->R z_ (mup M2 p eI!)
def b9l(ha:ag!)(hb:by!):ME X own (.BinOp a .Add b pos) (Qs fa fb):=
 eR (a0y a6v ha.ok hb.ok) λZ G H Q ρ M R st e k=>⟨G,ρ,M,_,st,e,λx M1 v G1 H1 r1 x1 m1 q1=>⟨G1,ρ,M1,_,st.grow x1 m1,r1,λy M2 u G2 H2 r2 x2 m2 q2=>by
  obtain⟨xs,e1,r2⟩:=cC r2;obtain⟨ys,e2,hl,r2⟩:=cC r2;obtain⟨p1,ui,rfl,s1,UU⟩:=a7g x2.sub m2 a4_ e1;obtain⟨p2,vw,rfl,s2,UV⟩:=a7g x2.sub m2 q2 e2;refine⟨p1,p2,ui,vw,rfl,rfl,s1,s2,by rw[<-aH UU,<-aH UV];exact cV hl,bC!⟩;exact k _ _ _ _ _ (r2 p (m2.nocell hp)) ((bh!).trans (.laid x2.sub hp) m2) (m2.laid hp x2.sub ⟨_,bK,cS UU UV⟩) Aj.fn⟩⟩
end
end DL
namespace XS
open PySem
abbrev frA(l:ai!):List Addr:=l.filterMap (·.frame)
structure Kp(av fr:aS!)(h h':Heap):Prop where
 old:∀b o,b∉av->b∉fr->h.get? b=some o->h'.get? b=some o
 frm:∀b o,b∈fr->h.get? b=some o->∃sl,h'.get? b=some {o with slots:=sl}
 thr:∀b o,h.get? b=some o->∃o',h'.get? b=some o'
 sz:bA_<=hi_
def Kp.trans(a:p5_)(b:Kp av fr h2 h3):Kp av fr Y h3:=
 ⟨λx o l m e=>b.old x o l m p6!,λx o m e=>by
  obtain⟨sl,e1⟩:=a.frm x o m e;obtain⟨jl,e2⟩:=b.frm x _ m e1;exact⟨jl,e2⟩,λx o e=>let⟨o1,e1⟩:=a.thr x o e;b.thr x o1 e1,IL a.sz b.sz⟩
def Kp.weak(a:Kp av fr h h')(hb:∀b∈av,b∈zf):Kp zf fr h h':=⟨λx o l m e=>a.old x o (λz=>l (hb x z)) m e,a.frm,a.thr,a.sz⟩
def Kp.skip(a:p5_)(b:Kp zf fr h2 h3)(hb:∀x∈zf,x∈av\/Y.get? x=none):Kp av fr Y h3:=
 ⟨λx o l m e=>b.old x o (λz=>(hb x z).elim l λq=>by rw[q]at e;cases e) m p6!,λx o m e=>by
  obtain⟨sl,e1⟩:=a.frm x o m e;obtain⟨jl,e2⟩:=b.frm x _ m e1;exact⟨jl,e2⟩,λx o e=>let⟨o1,e1⟩:=a.thr x o e;b.thr x o1 e1,IL a.sz b.sz⟩
def EC(o:Obj)(cls:yB!):Prop:=o.cls=cls/\o.dict=none/\W.notCls o=true
def EC.mapF{f:uB!}(h:EC o cls):EC (Obj.mapFields f o) cls:=by
 obtain⟨Y,h2,h3⟩:=h;refine⟨(Obj.cls_mapFields _ _).trans Y,?_,?_⟩
 .unfold Obj.mapFields;split<;>exact h2
 .unfold Obj.mapFields;split
  .rfl
  .exact h3
structure XN(n:Heap)(h:Heap)(e:yz!)(cls:yB!):Prop where
 new:n.get? e=none
 ex:∃oe vs,h.get? e=some oe/\EC oe cls/\oe.data=.fields vs/\vs[1]?=some .none
structure XF(n:Heap)(h:Heap)(e T:yz!)(cls fl:yB!):Prop where
 new:n.get? e=none
 ex:∃oe vs oT ts,h.get? e=some oe/\EC oe cls/\oe.data=.fields vs/\vs[1]?=some (.ref T)/\n.get? T=none/\T≠e/\h.get? T=some oT/\oT.data=.fields ts/\ts[3]?=some fl
section
variable{s:yM!}{n:Heap}
def c2k(hl:dU!)(hn:dU_)(he:p8!):e∉frA a7_:=λhm=>by obtain⟨o,q⟩:=hn e hm;rw[he]at q;cases q
def c2o{oe:Obj}{vs:bi_}{YX:Bool}(du:fn_)(hl:dU!)(hf:fo!)(hn:dU_)(cr:fo_)
  (hne:p8!)(he:s.heap.get? e=some oe)(hc:EC oe cls)(hd:oe.data=.fields vs)(hsz:1<vs.size)
  (k:p8_):
  wpAny M A (do setField V! 1 (<-EntryCells.newEntry UW (<-frameOf env) .none kS! .none (<-entryPlaceOf L YX))) Q E s:=by
 have UX:=c2k (s:=s) hl hn hne;refine GM (wpAny_frameOf_fun du hl hf λY so=>?_);refine GM (wpAny_entryPlaceOf λpl ar=>?_);unfold EntryCells.newEntry newFields;refine GM (JX ?_ (ar.sizeOk5 _ _ _ _ _));have e1:Y.get? e=some oe:=(so.2.1 e UX).trans he;have eT:e<hl!:=HP e1;generalize hob:({cls:=.type "traceback",dict:=none,data:=.fields (qb!).toArray}:Obj)=ob;have UY:ob.data=.fields (qb!).toArray:=by rw[<-hob]
 have YY:ob.isFreed=false:=MM UY;have e2:(Y.push ob).get? e=some oe:=GQ _ e1;refine NW e2 hd hsz ?_;have d3:=LM hd qb_;have e3:=KL qd! e2 (MM d3);have b9:∀b o,b≠e->Y.get? b=some o->(qc_).get? b=some o:=λb o hb eb=>by
  rw[IG _ _ f1!];exact GQ _ eb
 have tT:(qc_).get? hl!=some ob:=by
  rw[IG _ _ (IH eT)];exact HM _ YY
 have s1:g_=hl!:=so.1.symm;refine k _ Y.objs.size (by rw[s1];exact HK _) ⟨hne,_,_,ob,_,e3,hc.mapF,d3,qe_,cr _ a!,LY eT,tT,UY,?_⟩ ⟨λb o hb YZ eb=>?_,λb o hb eb=>?_,λb o eb=>?_,by rw[NG,MN,s1];exact JW _⟩ (hl.of_keeps λb o eb uw=>?_)
 .obtain rfl|⟨_,_,_,_,_,_,_,rfl⟩:=ar<;>simp
 .refine b9 b o fq_ ?_;rw[so.2.1 b YZ];exact eb
 .show"#*";exact⟨sl,b9 b _ (λz=>UX dV_) km⟩
 .show"#*";by_cases dz:b=e
  .subst dz;exact⟨_,e3⟩
  .exact⟨_,b9 b _ dz km⟩
 .show"#*";exact⟨_,b9 b _ (λz=>by subst z;rw[he]at eb;cases eb;exact uw _ hd) km,rfl⟩
def a1f(du:fn_)(hl:dU!)(hf:fo!)(hn:dU_)(cr:fo_)(x:XN n s.heap e cls)
  (k:p8_):wpAny M A kW_ Q E s:=by
 obtain⟨hne,oe,vs,he,hc,hd,Y⟩:=x;unfold noteFrame;simp only[hf];refine GM kX!;rw[HA (show¬((Value.none != Value.none)=true)by decide)];exact c2o du hl hf hn cr hne he hc hd (JV.mp Y).1 k
def vR(du:fn_)(hl:dU!)(hf:fo!)(hn:dU_)(cr:fo_)(x:qi!)(Y0:fl≠rawInt L)
  (k:∀h' T',g_<=T'->XF n h' e T' cls kS!->Kp [e,T] fp! s.heap h'->h'.FunFrames base a7_->Q () {s with heap:=h'}):wpAny M A kW_ Q E s:=by
 obtain⟨hne,oe,vs,oT,ts,he,hc,hd,Y,hT,sh,ht,ky,h3⟩:=x;unfold noteFrame;simp only[hf];refine GM kX!;rw[qi_];refine GM (JB ht ky h3 ?_);rw[HA (show¬((fl==rawInt L)=true)by simpa using Y0)];refine GM (NW ht ky (JV.mp h3).1 ?_);have b9:∀b,b≠T->(hm_).get? b=s.heap.get? b:=λb hb=>IG _ _ f1!;have zg:T∉frA a7_:=c2k (s:=s) hl hn hT;have kp:Kp [e,T] fp! s.heap hm_:=
  ⟨λb o hb _ eb=>by rw[b9 b fq_];exact eb,λb o hb eb=>qk!,λb o eb=>by
   by_cases hb:b=T
   .subst hb;exact⟨_,KL _ ht qk_⟩
   .exact⟨o,by rw[b9 b hb];exact eb⟩,NU (NG ..).symm⟩
 have v0:(hm_).FunFrames base a7_:=hl.of_keeps λb o eb uw=>⟨o,by
  rw[ql!];exact eb,rfl⟩
 have hz:(hm_).objs.size=g_:=NG ..;refine c2o (s:={s with heap:=s.heap.update T qj!}) du v0 hf hn (by rw[hz];exact cr) hne ((qm!).trans he) hc hd (JV.mp Y).1 λh' T' a0 a1 a2 a3=>k h' T' (by rw[<-hz];exact a0) a1 (kp.trans (a2.weak d_)) a3
def zG(hl:s.heap.FunFrames base l)(hn:∀b∈frA l,∃o,n.get? b=some o)(x:qi!)
  (k:∀h',XF n h' e T cls qm_->Kp [T] (frA l) s.heap h'->h'.FunFrames base l->hi_=g_->Q () {s with heap:=h'}):wpAny M A (setFlight V! fo) Q E s:=by
 obtain⟨hne,oe,vs,oT,ts,he,hc,hd,Y,hT,sh,ht,ky,h3⟩:=x;have hsz:=(JV.mp h3).1;unfold setFlight;refine GM kX!;rw[qi_];have b9:∀b,b≠T->(s.heap.update T qn_).get? b=s.heap.get? b:=λb hb=>IG _ _ f1!;have zg:T∉frA l:=λhm=>by obtain⟨o,q⟩:=hn T hm;rw[hT]at q;cases q
 have self:=KL qn_ ht qk_;refine NW ht ky hsz (k _ ⟨hne,oe,vs,_,_,(qm!).trans he,hc,hd,Y,hT,sh,self,LM ky _,qe_⟩
  ⟨λb o hb _ eb=>by rw[b9 b fq_];exact eb,λb o hb eb=>qk!,λb o eb=>by
   by_cases hb:b=T
   .subst hb;exact⟨_,self⟩
   .exact⟨o,by rw[b9 b hb,eb]⟩,NU (NG ..).symm⟩
  (hl.of_keeps λb o eb uw=>⟨o,by rw[ql!];exact eb,rfl⟩) (NG ..))
inductive Xq(n:Heap)(h:Heap)(e:yz!)(cls:yB!)(L:yz!):List Addr->Prop
 |new:XN n h e cls->Xq n h e cls L [e]
 |on {T:yz!}:XF n h e T cls .none->Xq n h e cls L [e,T]
def c8m(du:fn_)(hl:dU!)(hf:fo!)(hn:dU_)(cr:fo_)(x:Xq n s.heap e cls L av)
  (k:∀h' T,qo_->XF n h' e T cls .none->Kp av fp! s.heap h'->h'.FunFrames base a7_->Q () {s with heap:=h'}):wpAny M A (leaving env V!) Q E s:=by
 have UZ:∀{T:yz!},g_<=T->s.heap.get? T=none:=λ{T} hT=>by
  cases q:s.heap.get? T with
  |none=>rfl
  |some o=>exact absurd (HP q) (Nat.not_lt.mpr hT)
 unfold leaving;cases x with
 |new x=>
  refine GM (a1f du hl hf hn cr x λY T a0 a1 a2 a3=>?_);show"!X"
 |on x=>
  refine GM (vR du hl hf hn cr x hq! λY T a0 a1 a2 a3=>?_);show"!X"
end
end XS
namespace XS
open PySem PySem.Spec PyProof.Rows L2
def Vu(base:Heap)(P:yL!)(w:yK!):Yj:=λouter H s E e s'=>∃(a T:yz!) (cls:yB!) (H':Hp),e=.ref a/\s'.os=s.os/\AllBare s'.gens/\Un (frs outer) [] H H' s.heap s'.heap/\Jx P w H' s'.heap/\
 XF s.heap s'.heap a T cls .none/\H' a=none/\H' T=none/\s'.heap.FunFrames base outer/\E cls none H'
def Lo(m n:Heap):Prop:=∀b,n.get? b=none->m.get? b=none
def In(n h:Heap):Prop:=∀b,bA_<=b->n.get? b=none
def Lo.in(l:Lo n h):In n h:=λb z=>l b (Heap.get?_none_of_le z)
def Lo.of(k:∀b o,h.get? b=some o->∃o',h'.get? b=some o'):Lo h h':=λb z=>by
 cases y:h.get? b with
 |none=>rfl
 |some o=>obtain⟨o',e⟩:=k b o y;rw[z]at e;cases e
def XF.low(x:XF n h e T cls fl)(l:Lo m n):XF m h e T cls fl:=by obtain⟨hne,oe,vs,oT,ts,he,hc,hd,Y,hT,r⟩:=x;exact⟨l _ hne,oe,vs,oT,ts,he,hc,hd,Y,l _ hT,r⟩
def Xq.ge(x:kZ!):∀b∈av,n.get? b=none:=by
 intro b hb;cases x with
 |new x=>simp at hb;subst hb;exact x.new
 |on x=>
  obtain⟨hne,oe,vs,oT,ts,he,hc,hd,Y,hT,r⟩:=x;simp at hb;obtain rfl|rfl:=hb
  .exact hne
  .exact hT
structure Nw(X:Cx)(h1:r!)(n:Heap):Prop where
 s0:∀b o,b∉X.ex->X.s₀.heap.get? b=some o->∃o',n.get? b=some o'
 loc:∃o,n.get? X.env.locals=some o
 cel:∀x c,X.env.cells.lookup x=some c->∃o,n.get? c=some o
 pin:∀p∈X.pn++h1,∃o,n.get? p.1=some o
 frm:∀b∈frA X.stack,∃o,n.get? b=some o
def Dp.there(x:kV!):∃u,h.get? a=some u:=by
 cases o with
 |lst xs=>obtain⟨_,_,_,_,e⟩:=x;exact bc_
 |tup xs=>obtain⟨_,_,_,_,e,_⟩:=x;exact bc_
 |dK σ=>obtain⟨_,_,_,_,o,_,_,e,_⟩:=x;exact bc_
 |dT σ=>obtain⟨_,_,_,_,o,_,_,e,_⟩:=x;exact bc_
 |set S n=>obtain⟨o,_,_,_,e,_⟩:=x;exact bc_
 |ins C dx fs=>obtain⟨_,_,_,e,_⟩:=x;exact bc_
 |own y=>obtain⟨_,e⟩:=x;exact bc_
 |xd fs=>obtain⟨_,⟨_,_,_,e,_⟩,_⟩:=x;exact bc_
 |rng lo hi=>obtain⟨_,_,_,e⟩:=x;exact bc_
 |frz ob u=>obtain⟨e,_⟩:=x;exact bc_
 |tbl ps=>exact⟨_,hm!⟩
 |met f y=>exact⟨_,hm!⟩
 |ext φ=>obtain⟨_,⟨_,e⟩,_⟩:=x;exact bc_
def Jx.none(x:aR!)(e:h.get? a=none):H a=none:=by
 cases q:H a with
 |none=>rfl
 |some u=>
  obtain⟨o,ho⟩:=Dp.there (x a u q);rw[e]at ho;cases ho
section
variable{X:Cx}{s:yM!}
def Nw.here(I:a_):Nw X h1 s.heap where
 s0:=λb o hx e=>I.base.there b o e hx
 loc:=by obtain⟨m,⟨o,_,_,ho,_⟩,_⟩:=I.loc;exact kZ_
 cel:=λx c h=>by
  obtain⟨v,o,ho,_⟩:=I.cell x c h;exact kZ_
 pin:=λp hp=>⟨_,(lE!).1⟩
 frm:=λb hb=>by
  obtain⟨_,o,ho,_⟩:=I.stack.mem hb;exact kZ_
def c0f(I:a_):∀b∈frA X.stack,H b=none:=I.stkFree
def b6y(I:a_)(N:Nw X h1 n)(u:Un hA_ av H H' s.heap h')(hok:hx!)(hg:k7_)(hb:∀b∈av,n.get? b=none):
  Inv X h1 Z H' {s with heap:=h',gens:=g',drawn:=d',toks:=t'}:=by
 have nb:∀b∈av,∀o,n.get? b≠some o:=λb h o z=>by rw[hb b h]at z;cases z
 have n0:∀b∈av,b∈X.ex\/X.s₀.heap.get? b=nb!:=λb h=>by
  by_cases hx:b∈X.ex
  .exact .inl hx
  .refine .inr ?_;cases q:X.s₀.heap.get? b with
   |none=>rfl
   |some o=>obtain⟨o',e⟩:=N.s0 b o hx q;exact absurd e (nb b h o')
 have nl:∀b∈av,b≠X.env.locals:=λb h z=>by subst z;obtain⟨o,e⟩:=N.loc;exact nb _ h o e
 have nc:∀b∈av,∀x c,X.env.cells.lookup x=some c->c≠b:=λb h x c hc z=>by subst z;obtain⟨o,e⟩:=N.cel x c hc;exact nb _ h o e
 have np:∀b∈av,∀p∈X.pn++h1,p.1≠b:=λb h p hp z=>by subst z;obtain⟨o,e⟩:=N.pin p hp;exact nb _ h o e
 have nf:∀b∈av,b∉frs X.stack:=λb h z=>by obtain⟨o,e⟩:=N.frm b z;exact nb _ h o e
 have Y1:∀b∈av,b∉X.fs:=λb h z=>by
  refine nf b h ?_;obtain e|⟨e,ef⟩:=k6_
  .rw[e];exact z
  .rw[e];simp only[frs,NS,ef];exact GO _ z
 have ok:=I.ok
 let X':Cx:={X with ex:=X.ex++av}
 have k1:∀b∈X.ex++av,b≠X.env.locals/\∀x c,X.env.cells.lookup x=some c->c≠b:=λb ic=>by
  obtain q|q:=GS.mp ic
  .exact ok.exf b q
  .exact⟨nl b q,nc b q⟩
 have k2:∀b o,X.base.get? b=some o->b∉X.ex++av:=λb o e z=>by
  obtain q|q:=GS.mp z
  .exact ok.noex b o e q
  .obtain r|r:=n0 b q
   .exact ok.noex b o e r
   .rw[(ok.bs b o e).1]at r;cases r
 have k3:∀b∈X.ex++av,b∉X.fs:=λb ic=>by
  obtain q|q:=GS.mp ic
  .exact ok.exfs b q
  .exact Y1 b q
 have Y2:X'.Ok:=⟨ok.mod,ok.kind,ok.glob,ok.blt,hK!,ok.inj,ok.has,ok.cab,ok.hd,hK_,ok.stk,k1,ok.bs,ok.bsz,k2,k3,ok.funs,ok.frf⟩;have I':Inv X' h1 Z H s:=⟨Y2,I.os,I.bare,I.base.mono (λ_ z=>z) (λ_ z=>GU _ z),I.loc,I.cell,I.free,I.freeC,I.pin,I.hok,I.len⟩;have J':=I'.call (g':=g') (t':=t') (d':=d') (ch:=av) u hok hg λb h=>⟨.inl (GV _ h),nl b h,nc b h,np b h⟩;have out:∀b o,X.s₀.heap.get? b=some o->b∉X.ex->b∉X.ex++av:=λb o e hx z=>by
  obtain q|q:=GS.mp z
  .exact hx q
  .obtain r|r:=n0 b q
   .exact hx r
   .rw[e]at r;cases r
 have B:=J'.base;exact⟨ok,J'.os,J'.bare,⟨λb o e m hf hx=>B.keep b o e m hf hr_,λb o e m hf hx=>B.slot b o e m hf hr_,λb o e m hx=>B.free b o e m hr_,λb o e hx=>B.there b o e hr_,B.tups,B.frzs,B.tbls⟩,
  J'.loc,J'.cell,J'.free,J'.freeC,J'.pin,J'.hok,J'.len⟩
def c7f(kp:k3_):Un hA_ av H H s.heap h' where
 keep:=λb o e _ hf hb=>kp.old b o hb hf e
 slot:=λb o e _ hf _=>kp.frm b o hf e
 free:=λ_ _ _ n _=>n
 there:=λb o e _=>kp.thr b o e
 tups:=λ_ _ e=>e
 frzs:=λ_ _ _ e=>e
 tbls:=λb ps e=>lf_
def c5m(I:a_)(kp:k3_)(hb:∀b∈av,H b=none):Jx X.prog X.w H h':=λb u e=>
 (lg_).stay (λd o hd eo=>by
  have j1:∃u,H d=some u:=by
   obtain rfl|hd:=hd
   .exact⟨u,e⟩
   .exact⟨_,hd⟩
  obtain⟨v,hv⟩:=j1;exact kp.old d o (λz=>by rw[hb d z]at hv;cases hv) (λz=>by rw[c0f I d z]at hv;cases hv) eo) fs_ λ_ _ q=>q
def zC(I:a_)(N:Nw X h1 n)(kp:k3_)(hb:∀b∈av,H b=none/\n.get? b=none):Inv X h1 Z H {s with heap:=h'}:=
 b6y (g':=s.gens) (t':=s.toks) (d':=s.drawn) I N (c7f kp) (c5m I kp λb h=>(hb b h).1) I.bare λb h=>(hb b h).2
end
def c0k{h:Heap}{outer:ai!}(x:h.FunFrames base a7_):h.FunFrames base outer:=x.2.2
section
def b4v(I:Inv ht! h1 Z H1 s1)(Nn:Nw ht! h1 n)(cr:In n s1.heap)
  (x:Xq n s1.heap e cls s.heap.objs.size av)(hb:∀b∈av,H1 b=none)(q:E cls none H1):
  (ht!).xe V! s1:=by
 refine c8m (base:=base) (n:=n) I.ok.frames I.stack rfl Nn.frm cr x λh' T hT xf kp ff=>?_;have J:=zC I Nn kp λb h=>qv!;refine⟨e,T,cls,H1,rfl,J.os,J.bare,J.base,J.hok,xf.low u6_,?_,?_,c0k ff,q⟩
 .cases y:s.heap.get? b with
  |none=>rfl
  |some o=>
   obtain⟨o',e'⟩:=Nn.s0 b o hq! y;rw[z]at e';cases e'
 .cases x with
  |new _=>exact hb e d_
  |on _=>exact hb e d_
 .obtain h|h:=hT
  .exact hb T h
  .exact I.hok.fresh h
end
def FM:List Value:=[qw_,qy!,qx_,s6!]
structure CN(KF:zr!)(N:yz!):Prop where
 mk::
 at_:∃c d es ep sl,KF.lookup N=some ⟨c,d,.dict es ep,sl⟩/\(es.all λe=>match e.key with|.str _ _=>true|_=>false)=true
 no:W.nsIn KF N "__init__"=some none
def Xp(KF:zr!)(C:yz!):Prop:=∃B N nm q bs hdct sn sub ab col dd k0 k1 k2 k3 k5 c0 d1 cd sl,KF.lookup C=some (excClassObj nm q C N bs (.ref B::FM) hdct sn sub ab col dd k0 k1 k2 k3 k5 "ValueError.__new__")/\KF.lookup B=some ⟨c0,d1,.cls cd,sl⟩/\CN KF N/\CN KF cd.ns
def zI{sub:j_}{k0 k1 k2 k3 k5:qB!}
  (la:KF.lookup C=some (excClassObj nm q C N bs [.ref B,qw_,qy!,qx_,s6!] hdct sn sub ab col dd k0 k1 k2 k3 k5 "ValueError.__new__"))(lb:KF.lookup B=some ⟨c0,d1,.cls {name:=nm1,bases:=bs1,mro:=mro1,ns:=N1,qualname:=q1,hasDict:=hdct1,slotNames:=sn1,subclasses:=sub1,abstract:=ab1,collection:=col1,hasDel:=del1},sl⟩)
  (lc:KF.lookup N=some ⟨c2,d2,.dict es ep,s2⟩)(ld:(es.toList.all λe=>match e.key with|.str _ _=>true|_=>false)=true)(le:W.nsIn KF N "__init__"=some none)(lf:KF.lookup N1=some ⟨c3,d3,.dict Y3 ux,s3⟩)(lg:(Y3.toList.all λe=>match e.key with|.str _ _=>true|_=>false)=true)(lh:W.nsIn KF N1 "__init__"=some none):Xp KF C:=
 ⟨B,N,nm,q,bs,hdct,sn,sub,ab,col,dd,k0,k1,k2,k3,k5,c0,d1,_,sl,la,lb,⟨⟨_,_,_,_,_,lc,by rw[<-Array.all_toList];exact ld⟩,le⟩,⟨⟨_,_,_,_,_,lf,by rw[<-Array.all_toList];exact lg⟩,lh⟩⟩
def CN.ok(n:CN KF N):W.nsOkIn KF N=true:=by obtain⟨⟨c,d,es,ep,sl,e1,e2⟩,_⟩:=n;unfold W.nsOkIn;rw[e1];exact e2
def c5s(X:eW_)(q:Xp KF C):∃bm N nm q bs hdct sn sub ab col dd k0 k1 k2 k3 k5 mN,h.get? C=some (excClassObj nm q C N bs bm hdct sn sub ab col dd k0 k1 k2 k3 k5 "ValueError.__new__")/\h.Ns N mN/\mN "__init__"=none/\OwnTail h FM bm:=by obtain⟨B,N,nm,q,bs,hdct,sn,sub,ab,col,dd,k0,k1,k2,k3,k5,c0,d1,cd,sl,l1,l2,n1,n2⟩:=q;exact⟨_,N,nm,q,bs,hdct,sn,sub,ab,col,dd,k0,k1,k2,k3,k5,_,X _ _ l1,.of_isNs (W.isNs_of_in X n1.ok),W.nsMap_none_of_in X n1.ok n1.no,.own (X _ _ l2) (.of_isNs (W.isNs_of_in X n2.ok)) (W.nsMap_none_of_in X n2.ok n2.no) .base⟩
section
def made(I:a_)(m:Heap.MadeExcOf s.heap h' e cls args):Inv X h1 Z H {s with heap:=h'}/\XN s.heap h' e cls/\H e=none:=by refine⟨I.un (t':=s.toks) (Un.kept m.keeps) (I.hok.kept m.keeps),⟨m.new,?_⟩,Jx.none I.hok m.new⟩;obtain⟨t,ht,_⟩:=m.there;exact⟨_,_,ht,oC_,rfl,rfl⟩
def b2n{R:qC_}(hC:k9!)(hh:k8_)(hg:D_)(hm:fR_)(he:PE X ex te)
  (hR:∀(h1:r!) (Z:L2.St) (H:Hp) (s:yM!) (h':Heap) (e:yz!) (n:Heap),Inv X h1 Z H {s with heap:=h'}->Nw X h1 n->In n h'->XN n h' e H_->H e=none->R H_ H->X.xe V! {s with heap:=h'})
  (au:x!:=by decide)(hst:qD_:=by rfl):
  PS X qE_ qF!:=by
 intro h1 s Z H D I h;obtain⟨bm,N,nm,q,bs,hdct,sn,sub,ab,col,dd,k0,k1,k2,k3,k5,mN,c1,c2,Y4,c3⟩:=c5s I.ok.mod.kin hC;refine wpAny_Raise_call_subU (C:=C) (mN:=mN) (nm:=nm) (q:=q) (N:=N) (bs:=bs) (bm:=bm) (hdct:=hdct) (sn:=sn) (sub:=sub) (ab:=ab) (col:=col) (dd:=dd) (k0:=k0) (k1:=k1) (k2:=k2) (k3:=k3) (k5:=k5) PySem.F.excBase_ValueError b_ PySem.F.excBase_ValueError (c3.hasType b_) hh (by rw[hst];rfl) Y4 (gV I hg hm p! au);rw[hst];show wpAny _ _ (evalArgs H_ true qD! []) _ _ _;refine MU (KQ dg!);rintro u s1 ⟨v,H1,I1,r1,q1⟩;refine MV ?_;refine⟨rfl,by simp[sizeLine],I1.bk _ _ c1,c2.keeps I1.bk,c3.keeps I1.bk,λh' e m=>?_⟩;obtain⟨J,xn,hn⟩:=made I1 m;exact hR h1 Z H1 s1 h' e s1.heap J (Nw.here I1) (Lo.of λb o y=>⟨o,m.keeps b o y⟩).in xn hn q1
end
def Xq.at(x:kZ!):Xq n h e cls L' av:=by
 cases x with
 |new x=>exact .new x
 |on x=>exact .on x
def Xq.mem(x:kZ!):e∈av:=by cases x<;>simp
section
def c9k(du:fn_)(hl:dU!)(hf:fo!)(hn:dU_)(cr:fo_)(x:Xq n s.heap e cls L0 av)
  (k:∀h' T fl,qo_->XF n h' e T cls fl->Kp av fp! s.heap h'->h'.FunFrames base a7_->Q () {s with heap:=h'}):wpAny M A kW_ Q E s:=by
 cases x with
 |new x=>exact a1f du hl hf hn cr x λY T a0 a1 a2 a3=>k Y T _ hp_ a1 a2 a3
 |on x=>exact vR du hl hf hn cr x hq! λY T a0 a1 a2 a3=>k Y T _ hp_ a1 a2 a3
end
def Lv(X:Cx)(R:qC_):Prop:=∀(h1:r!) (Z:L2.St) (H:Hp) (s:yM!) (n:Heap) (a:yz!) (cls:yB!) (av:aS!),Inv X h1 Z H s->Nw X h1 n->In n s.heap->Xq n s.heap a cls 0 av->(∀b∈av,H b=none)->R cls H->X.xe E! s
def c8j{KF:zr!}:
  Lv ht! λcls H'=>E cls none H':=λh1 Z H1 s1 n a cls av I Nn i x hb q=>b4v I Nn i x.at hb q
def a6s(hX:Lv X R)(hE:∀cls H',E' cls none H'->R cls H'):Jw (Vu X.base X.prog X.w) X E':=by
 intro h1 Z H s e s' I h;obtain⟨a,T,cls,H',rfl,os,bare,un,hok,xf,ha,hT,ff,q⟩:=h;obtain⟨hh,g,d,t,xu⟩:=s';obtain rfl:xu=s.os:=os;have J:=I.call (h':=hh) (g':=g) (d':=d) (t':=t) (ch:=[]) un hok bare ti_;refine hX h1 Z H' _ s.heap a cls _ J (Nw.here I) (Lo.of λb o y=>un.there b o y d_).in (.on xf) fx_ (hE _ _ q);simp at hb;obtain rfl|rfl:=hb
 .exact ha
 .exact hT
def a9b(hX:Lv X R)(hC:k9!)(hh:k8_)(hg:D_)(hm:fR_)(he:PE X ex te)
  (au:x!:=by decide)(hst:qD_:=by rfl):
  PS X qE_ qF!:=
 b2n hC hh hg hm he (λh1 Z H s h' e n I N i x hn q=>hX h1 Z H _ n e _ _ I N i (.new x) (λb hb=>by simp at hb;subst hb;exact hn) q) au hst
end XS
namespace XS
open PySem PySem.Spec PyProof.Rows PySem.W L2
abbrev Yd(X:Cx)(pn:r!)(f:J_):Cx:={X with pn:=pn,xe:=f}
abbrev Pd(X:Cx)(e:yz!)(pn:r!):Cx:={X with A:=X.A.mark (some V!),calm:=false,pn:=pn,xe:=λ_ _=>False}
section
def tL(I:a_)(ok:g8.Ok)(hY:g8={X with A:=g8.A,calm:=g8.calm,pn:=g8.pn,xe:=g8.xe})(hp:∀p∈g8.pn++ve,s.heap.get? p.1=some p.2/\H p.1=none/\p.1≠X.env.locals/\p.1∉X.fs/\∀v,k5_≠.cell v)
  (hl:ae.length=dX!)(hs:∀(i:Nat) (v:V),ae[i]?=some aG!->Z[i]?=some aG!):Inv g8 ve ae H s:=by
 obtain⟨m,hn,h⟩:=I.loc;have:=I.len;rw[hY];exact⟨hY▸ok,I.os,I.bare,I.base,⟨m,hn,λi x v e1 e2 e3=>h i x v e1 (hs i v e2) e3⟩,I.cell,I.free,I.freeC,hp,I.hok,hl.trans I.len⟩
def c9i(ok:X.Ok):(dX_).Ok:=hL!
def c4f(ok:(dX_).Ok):X.Ok:=hL!
def c7w(ok:X.Ok):(Pd X e pn).Ok:=⟨ok.mod,ok.kind,ok.glob,ok.blt,hK!,ok.inj,ok.has,ok.cab,λz=>Bool.noConfusion z,hK_,ok.stk,ok.exf,ok.bs,ok.bsz,ok.noex,ok.exfs,ok.funs,ok.frf⟩
def c9j(ok:(Pd X e pn).Ok)(hd:X.calm=true->ht_=none):X.Ok:=⟨ok.mod,ok.kind,ok.glob,ok.blt,hK!,ok.inj,ok.has,ok.cab,hd,hK_,ok.stk,ok.exf,ok.bs,ok.bsz,ok.noex,ok.exfs,ok.funs,ok.frf⟩
def b0h(I:a_)(xh:h'.Ns X.env.locals m')(hs:Heap.SameBut X.env.locals s.heap h')
  (hl:∀(j:Nat) (y:Str) (v:V),X.N[j]?=some y->ae[j]?=some aG!->Ut X.env.scope y->∃u,Be v u/\BR X.env h' m' y u)(len:ae.length=k5!):Inv X h1 ae H {s with heap:=h',toks:=t}:=by
 have ne:∀b o,X.s₀.heap.get? b=some o->b≠X.env.locals:=λb o e=>IH k8!;refine⟨I.ok,I.os,I.bare,⟨λb o e n hb hx=>(qL!).trans hz_,fv_,I.base.free,la!,I.base.tups,I.base.frzs,I.base.tbls⟩,⟨_,xh,hl⟩,qV_,I.free,I.freeC,bC!,λb ob e=>?_,len⟩
 .show"!@";exact⟨sl,qM!⟩
 .show"!9";exact⟨o',qM!⟩
 .obtain⟨w',z⟩:=I.cell y c e;exact⟨w',z.sameBut hs (I.cne y c e)⟩
 .show"!P";exact q0!
 .refine(qS_).stay qT! fs_ λ_ _ q=>q;rintro rfl;obtain rfl|hc:=hc
  .rw[I.free]at e;cases e
  .rw[I.free]at hc;cases hc
end
structure Xs(KF:zr!)(C0:yz!):Prop where
 tup:W.instIn KF aq! a1!=some false
 cls:∃cd,W.clsIn KF C0=some cd
 exc:W.subIn KF aq! hB_=some true
def c6l(ta:W.instIn KF aq! a1!=some false)(tb:W.clsIn KF C0=some cd)(tc:W.subIn KF aq! hB_=some true):Xs KF C0:=⟨ta,⟨_,tb⟩,tc⟩
def a4t(X:bm!)(C:Xs KF C0)(he:s.heap.get? a=some oe)(hc:oe.cls=.ref c)(hs:W.subIn KF aF_ aq!=some true)
  (h:Q true s):wpAny M A (excMatches E! aq!) Q E s:=by
 obtain⟨hh,g,d,tk,os⟩:=s;obtain⟨Y,h2,h3⟩:=C;have L1:=W.looks_instIn (M:=M) X Y;have L2:=RS (M:=M) X h3;have L3:=RS (M:=M) X hs;have Lt:Looks M hh (isType aq!) true:=by
  obtain⟨cd,h2⟩:=h2;unfold W.clsIn at h2;split at h2
  .show"!j"
  .cases h2
 have Le:Looks M hh (isExcClass aq!) true:=Lt.andThen L2;have Ly:Looks M hh (typeOf E!) aF_:=λA' Q' E' s' k q=>GM qO_;unfold excMatches;refine GM lh!;rw[HA b_];show"!R";rw[LQ];refine GM (GM (GM (Le.at ?_)));show"#2";refine GP ?_;show"#=";rw[OG];refine GP (GM (Ly.at ?_));rw[LQ];refine GM (GM (GM (L3.at ?_)));simp only[JN];exact GP jQ_
structure Ze(X:Cx)(xC en xn:Str)(C0 L:yz!)(ie ix:Nat):Prop where
 hst:X.stack=X.env::X.outer
 hf:X.env.frame=some L
 hcalm:X.calm=true->ht_=none
 hN:aH!
 hie:X.N[ie]?=some en
 hix:X.N[ix]?=some xn
 hne:en≠xn
 hke:X.env.scope.names.lookup en=some .local
 hkx:X.env.scope.names.lookup xn=some .local
 hg:Gl X xC
 hm:X.mg xC=some aq!
 C:Xs X.K C0
def Of(n ix:Nat)(v:V):L2.St:=(qP_).set ix aG!
section
variable{D:Qo}{hv:Addr->Option V}
nonrec def xT(X:Cx)(h1:r!)(D:Qo)(h0:ExceptHandler):Value->Shared->Prop:=λe am=>wpAny e! X.A (noteFrame e X.env) (λ_ ao=>wpAny e! X.A (setFlight e none) (λ_ de=>wpAny e! X.A (handleBy e X.env [h0]) lo! X.xe de) X.xe ao) X.xe am
def c4u(tc:lh_)
  (uy:qQ_)
  (gu:li!)(au:fy!):
  Lv qT_ λcls H'=>∃c v,cls=.ref c/\subIn X.K aF_ aq!=some true/\hv c=some v/\D.nx li_ H':=by
 obtain⟨hst,hf,hcalm,hN,hie,hix,hne,hke,hkx,hg,hm,C⟩:=tc;intro ve ae H' s' n a cls av I Nn i x hb q;obtain⟨c,v,rfl,UI,Y5,hD⟩:=q;have du:X.A.frames=some hD_:=by rw[<-hst];exact I.ok.frames
 have cr:∀b∈frA hD_,∃o,n.get? b=some o:=by rw[<-hst];exact Nn.frm
 have hl:s'.heap.FunFrames X.base hD_:=by rw[<-hst];exact I.stack
 refine c9k du hl hf cr i x λY T fl a0 a1 a2 a3=>?_;have Y6:H' T=none:=by
  obtain z|z:=a0
  .exact hb T z
  .exact I.hok.fresh z
 have Y7:n.get? T=none:=let⟨_,_,_,_,_,_,_,_,_,z,_⟩:=a1;z;rw[<-hst]at a2;have J1:=zC I Nn a2 λb h=>qv!;have tk:∀b∈[T],H' b=none/\n.get? b=none:=λb h=>by simp at h;subst h;exact⟨Y6,Y7⟩
 refine zG (s:={s' with heap:=Y}) (fo:=none) a3 cr a1 λh2 b1 b2 b3 b4=>?_;rw[<-hst]at b2;have J2:=zC J1 Nn b2 tk;refine wpAny_handleBy_cons (codeAny_handlers_test ?_) qV!;have I2:Inv (Pd X a bP!) [] ae H' {s' with heap:=h2}:=tL (ok:=c7w (c4f J2.ok)) J2 rfl (λp hp=>J2.pin p (GU _ lj!)) rfl λ_ _ z=>z;refine gV (X:=Pd X a bP!) I2 hg hm ?_ au;obtain⟨jw,oe2,vw,oT2,ts2,e2,c2,d2,r2⟩:=id b1;refine a4t I2.kIn C e2 c2.1 UI ?_;dsimp only;refine codeAny_handlers_suite_as ?_;refine zG (s:={s' with heap:=h2}) (fo:=none) b3 cr b1 λh3 Y8 U' c3 c4=>?_;rw[<-hst]at U';have J3:=zC J2 Nn U' tk;obtain⟨_,oe,vs3,oT3,ts3,e3,Y9,d3,r3⟩:=Y8;have y8:H' a=none:=hb _ x.mem;have Y':a≠X.env.locals:=λz=>by subst z;obtain⟨o,w⟩:=Nn.loc;rw[show n.get? X.env.locals=some o from w]at jw;cases jw
 have ZA:a∉X.fs:=λz=>by
  obtain⟨o,w⟩:=cr a (by
   show a∈List.filterMap _ hD_;rw[NS,hf];exact GO _ z)
  rw[jw]at w;cases w
 have I3:Inv qY! [] ae H' {s' with heap:=h3}:=tL (ok:=c7w (c4f J3.ok)) J3 rfl (λp hp=>by
  rw[IB]at hp;obtain hp|hp:=GS.mp hp
  .exact J3.pin p hX!
  .simp at hp;subst hp;exact⟨e3,y8,Y',ZA,λv z=>by rw[d3]at z;cases z⟩) rfl λ_ _ z=>z
 refine mI (X:=Pd X a hE!) (v:=bb!) I3 hN hie (.inl hke) rfl (λs4 I4=>?_) (.inr hke);have ZB:lk_[ie]?=some jl!:=IS (by rw[I3.len];exact(HG.mp hie).1);have P:=eV (sH (X:=Pd X a hE!) (pos:=ap) (pos':=xp) hN hix (.inl hkx) (uy a hE! oe c d_ Y9) gu (.inr hkx));refine JS (P [] s4 _ H' {nx:=λZC H5=>ZC=(lk_).set ix aG!/\H5=H',rt:=λ_ _=>False} I4 ⟨ZB,v,Y5,rfl,rfl⟩) (λf s5 z=>?_) λ_ _ z=>z.elim;cases f<;>first|(obtain⟨_,_,_,z⟩:=z;exact z.elim)|(obtain⟨_,_,_,_,_,z⟩:=z;exact z.elim)|skip
 obtain⟨_,_,I5,rfl,rfl⟩:=z;dsimp only;obtain⟨m,hn,ZD⟩:=id I5.loc;have ZE:ix<((lk_).set ix aG!).length:=by rw[I5.len];exact(HG.mp hix).1
 refine wpAny_nameGoes_keeps hke hn (by rw[show X.env.scope.kind=.function from I5.ok.kind];rfl) λh6 w ZF VA=>?_;have I6:Inv qY! [] li_ _ {s5 with heap:=h6,toks:=s5.toks+1}:=b0h I5 ZF VA (λj y u e1 e2 e3=>by
  have hj:j=ix:=by
   by_cases z:j=ix
   .exact z
   .unfold Of at e2;rw[IE (IA z),KJ]at e2;split at e2<;>cases e2
  subst hj;rw[show X.N[j]?=some xn from hix]at e1;cases e1;unfold Of at e2;rw[IS (by rw[MB];exact(HG.mp hix).1)]at e2;cases e2;obtain⟨u',r',lk⟩:=ZD j _ _ hix (IS (by simpa using ZE)) e3;refine lk!;obtain⟨k,e⟩|⟨k,c,e,z⟩:=lk
  .exact .inl ⟨k,by simp[IA hne,e]⟩
  .exact .inr ⟨k,c,e,z.sameBut VA (I5.cne _ c e)⟩) (by unfold Of;simp)
 exact⟨_,_,tL (ok:=c9j I6.ok hcalm) I6 rfl (λp hp=>I6.pin p (by simp only[IB];exact GU _ hp)) rfl λ_ _ z=>z,hD⟩
def c3p{body:fy_}{t:(Value->Hp->Prop)->TS}(tc:lh_)
  (uy:qQ_)
  (hb:∀pn f R,Lv dX_ R->Lx dX_ body (t R))
  (gu:li!:=by rfl)(au:fy!:=by decide):
  PS X q3_ λD Z H=>t (λcls H'=>∃c v,cls=.ref c/\subIn X.K aF_ aq!=some true/\hv c=some v/\D.nx li_ H') D Z H:=by
 intro h1 s Z H D I h;have lv:=c4u (cp:=cp) (hp:=hp) (h1:=h1) (D:=D) tc uy gu au;refine wpAny_Try_except (JS (hb _ _ _ lv [] s Z H D (tL (ok:=c9i I.ok) I rfl (λp hp=>I.pin p lj!) rfl λ_ _ z=>z) h) (λf s1 z=>?_) λe s1 z=>z);have v5:∀{bq H1},Inv qT_ [] bq H1 s1->Inv X h1 bq H1 s1:=λJ=>tL (ok:=c4f J.ok) J rfl (λp hp=>J.pin p lj!) rfl λ_ _ z=>z;cases f with
 |next=>obtain⟨bq,H1,J,q⟩:=z;exact PL lm!
 |brk=>obtain⟨bq,H1,J,q⟩:=z;exact lm!
 |cont=>obtain⟨bq,H1,J,q⟩:=z;exact lm!
 |ret u=>obtain⟨v,bq,H1,J,r,q⟩:=z;exact⟨v,bq,H1,v5 J,r,q⟩
end
end XS
namespace DL
open PySem PySem.Spec PyProof.Rows L2 XS
abbrev EK:=Addr->Mh->Prop
abbrev Us:=List D->Mh->oN_->EK->Prop
def XR(P:yL!)(w:yK!)(KF:zr!)(M0:Mh)(G0 F0:Hp)(E:EK):Value->Hp->Prop:=λcls H'=>∃c M' G',cls=.ref c/\E c M'/\XM M0 G0 F0 M' G' H'/\MR P w KF M' G' H'
def DO(P:yL!)(w:yK!)(KF:zr!)(n:Nat)(g:Us):Sp:=λvs H Q E=>aU_=n/\∃G ds M R EM,Ar G H/\MR P w KF M G H/\Af KF G ds vs/\g ds M R EM/\(∀d M' v G' H',R d M'->XM M G H M' G' H'->MR P w KF M' G' H'->Aj KF G' d v->Q v H')/\∀cls H',XR P w KF M G H EM cls H'->E cls none H'
def Vx(P:yL!)(w:yK!)(KF:zr!)(mg:L!)(base:Heap)(k:Nat)(x:Str)(ps:D!)(g:Us):Prop:=
 ∃af fd,Em P w KF mg base hs_ k af fd ps (DO P w KF ps.length g)/\Ec KF fd ps []/\mg x=some a0!/\W.keepIn KF a0!=true
section
variable{KF:zr!}{st:Stmt}
def Vx.m(h:Vx P w KF mg base k x ps g):Ou P w KF mg base k x ps λds M R=>g ds M R λ_ _=>False:=by
 obtain⟨af,fd,F,h2,h3,h4⟩:=h;refine⟨af,fd,⟨λvs H Q E z=>z.1,?_⟩,h2,h3,h4⟩;rintro A outer s H args us vs Q E hr e0 hb hv ⟨hl,G,ds,M,R,sub,m,r,e,kk⟩;refine QA (F.run A outer s H args us vs Q iJ! hr e0 hb hv ⟨hl,G,ds,M,R,_,sub,m,r,e,kk,λcls H' ⟨_,_,_,_,z,_⟩=>z⟩) λr s' z=>?_;cases r with
 |ok f=>cases f<;>exact z
 |error e=>obtain⟨_,_,_,_,_,_,_,_,_,_,_,_,_,z⟩:=z;exact z
def oX{q:EK->WS}(d:ot_)(S:cK!)
  (hb:∀{af:yz!} {ah:yB!} {A:yA!} {outer:ai!} {s:yM!} {H:Hp} {E:XK} {M0:Mh} {G0 F0:Hp} {EM:EK},Ah k jK!->Lv q5! (XR P w KF M0 G0 F0 EM)->N.Nodup->
   Lx q5! be! (Zl P w KF M0 G0 F0 [] [] (q EM))):
  Vx P w KF mg base S_ x ps λds M R E=>Cj N ps.length (q E) ds M R:=by
 obtain⟨af,fd,F,B,m⟩:=d;refine⟨af,fd,?_,B,m,F.kp⟩;show"!D";refine c2m lk bz S xV_ λA outer s H vs Q E hr h=>?_;obtain⟨hl,G,ds,M,R,EM,sub,m,r,e,kk,ke⟩:=h;refine⟨_,hb (M0:=M) (G0:=G) (F0:=H) (EM:=EM) hr (λh1 Z H1 s1 n a cls av I Nn i y z q=>c8j h1 Z H1 s1 n a cls av I Nn i y z (ke cls H1 q)) S.nd,?_⟩;have er:=rS (N:=N) sub r;exact Bv_
end
section
variable{st:Stmt}{rest body b1 b2:List Stmt}{pos p2:Pos}{M0:Mh}
abbrev TX(X:Cx)(M0:Mh)(G0 F0:Hp)(own cu:l!)(q:WS):TS:=Zl X.prog X.w X.K M0 G0 F0 own cu q
def b3x(h:o6!):PS X st hF_:=h.ok M0 G0 F0
def sS(h:Ry X.nox own own1 rest q1):Lx X rest hF_:=Lx.nox (h.ok M0 G0 F0)
def fF(Y:PS X st hF_)(h2:Lx X rest (TX X M0 G0 F0 own1 jp q2)):Lx X hM_ (TX X M0 G0 F0 own jp (Ad q1 q2)):=λh1 s Z H D I ⟨G,ρ,M,R,sr,e,k1,k2⟩=>
 sF Y h2 h1 s Z H D I A7_
def vU(hc:j1_)(Y:Lx X b1 hF_)(h2:Lx X b2 (TX X M0 G0 F0 own own1 q2)):PS X nY_ (TX X M0 G0 F0 own own1 Ba!):=by
 rintro h1 s Z H D I ⟨G,ρ,M,R,sr,e,k1,k2⟩;refine b2o hc.ok Y h2 h1 s Z H D I Ba_;cases b with
 |true=>exact jS kg_
 |false=>exact jT kg_
def Fi(C:yz!)(E:EK)(f:WE):WS:=λρ M _=>f ρ M λ_ M1=>E C M1
def kH(hX:fz!)(hC:k9!)(hh:k8_)(hg:D_)(hm:fR_)(he:a4!)
  (au:x!:=by decide)(hst:starEach [e] X.env=[dn!]:=by rfl):
  PS X (.Raise (some (.Call qF_ [e] [] ak)) none pos) (TX X M0 G0 F0 own own1 (Fi C E f)):=λh1 s Z H D I ⟨G,ρ,M,R,sr,e',k1,k2⟩=>
 a9b hX hC hh hg hm he.ok au hst h1 s Z H D I ⟨G,ρ,M,_,sr.st,e',λd M' v G' H' r x m q=>⟨C,M',G',rfl,r,sr.x.trans x o7!,m⟩⟩
def Tt(P:yL!)(w:yK!)(KF:zr!)(M0:Mh)(G0 F0:Hp)(own:l!)(f:WE):TE:=λZ H Q=>∃G ρ M R,Gm P w KF own M0 G0 F0 M G H Z ρ/\f ρ M R/\∀d M' v G' H',R d M'->XM M G H M' G' H'->MR P w KF M' G' H'->Aj KF G' d v->Q v H'
def Fj(n:Nat)(g:Us)(E:EK)(fs:WA):WE:=λρ M R=>fs ρ M λds M1=>e_=n/\g ds M1 R E
def qT(hX:fz!)(F:rc_)(hr:bc!)(hg:D_)(ha:e6!)
  (au:x!:=by decide)(he:T!:=by rfl)(ar:ar!:=by rfl):
  PE X az! rb!:=by
 show"#8";refine qO Y hr hg h3 h4 h2 .nil rb_ ha.ok au he ar h1 s Z H Q I ⟨G,ρ,M,_,sr.st,e',pd!⟩;show"#4";refine⟨pd_,G1,ds,M1,R,E,x1.sub,m1,q1,r1.2,j0!,?_⟩;rintro cls H' ⟨c,M',G',h5,h6,h7,h8⟩;exact rd!
def c4m(hN:aH!)(hi:ac!)(hx:aS_)(h:lq_)(bx:aC!:=by decide)(hs:nY!:=by rfl)
  (hf:X.fn x=true\/X.env.scope.names.lookup x=some .local:=by first|exact .inl rfl|exact .inr rfl|assumption):PS X (.Assign [.Name x p2] e pos) (TX X M0 G0 F0 own own (Ai i f)):=λh1 s Z H D I ⟨G,ρ,M,R,sr,e',k1,k2⟩=>
 sH hN hi hx h hs hf h1 s Z H D I ⟨G,ρ,M,_,sr,e',A9_⟩
def xV(h:lq_)(hs:lx_:=by rfl):PS X ly! (TX X M0 G0 F0 own own (Bb f)):=λh1 s Z H D I ⟨G,ρ,M,R,sr,e',k1,k2⟩=>
 qN h hs h1 s Z H D I ⟨G,ρ,M,_,sr,e',Bb!⟩
def Zt(n ix:Nat)(hv:re!)(q:EK->WS):WS:=λρ M R=>q (λc M1=>Du (hv c) λd=>R (.nx ((qP_).set ix be_)) M1) ρ M R
def c4p{xC en xn:Str}{ap:Pos}{ie ix:Nat}{hv:re!}{hw:rf!}{q:EK->WS}(tc:lh_)
  (uy:∀a pn oe c,ds_∈pn->EC oe aF_->PE hD! he λZ H Q=>Z[ie]?=some gI!/\∃v,hw c=some v/\Q v H)
  (hvw:∀c d,hv c=some d->W.subIn X.K aF_ aq!=some true/\∃v,hw c=some v/\∀G,Aj X.K G d v)
  (hb:∀pn f M0 G0 F0 E,Lv dX_ q7_->Lx dX_ body (TX X M0 G0 F0 [] [] (q E)))
  (gu:li!:=by rfl)(au:fy!:=by decide):
  MS X [] [] q3_ (Zt X.N.length ix hv q):=⟨λM0 G0 F0 h1 s Z H D I ⟨G,ρ,M,R,sr,e,k1,k2⟩=>by
 refine c3p (hv:=hw) (t:=λRR D Z H=>∃E,(∀cls H',XR X.prog X.w X.K M0 G0 F0 E cls H'->RR cls H')/\TX X M0 G0 F0 [] [] (q E) D Z H) tc uy
  (λpn f RR lv h1 s Z H D I ⟨E,hE,h⟩=>hb pn f M0 G0 F0 E (λp1 p2 p3 p4 p5 p6 p7 p8 p9 zh zi zj zk z=>lv p1 p2 p3 p4 p5 p6 p7 p8 p9 zh zi zj zk (hE _ _ z)) h1 s Z H D I h) gu au h1 s Z H D I ⟨_,?_,G,ρ,M,R,sr,e,k1,k2⟩
 rintro cls H' ⟨c,M',G',rfl,e',x,m⟩;obtain⟨d,hd,hR⟩:=cC e';obtain⟨hs,v,xq,rep⟩:=hvw c d hd;refine⟨c,v,rfl,hs,xq,k1 _ M' G' _ H' hR ⟨⟨⟨x.sub,by unfold Of;simp,λj d' q _=>?_,hG!,hG!⟩,m,hG!⟩,x,hG!⟩⟩;have hl:ix<k5!:=(HG.mp tc.hix).1;by_cases hj:j=ix
 .subst hj;rw[IS lr_]at q;cases q;exact⟨v,IS lr_,rep G'⟩
 .rw[lj_,KJ]at q;split at q<;>cases q⟩
end
section
variable{X:Cx}{pos p1 p2 p3:Pos}
def b0u:Hb X eL_ λxs H Q=>∃a C1 oe,xs=rk_/\ds_∈X.pn/\oe.cls=.ref C1/\Q u_ H:=by intro h1 s Z H xs us Q I r h;obtain⟨a,C1,oe,rfl,hp,hc,q⟩:=h;obtain⟨u,w',rfl,r1,r2⟩:=uW r;cases rj!;cases rj_;have he:=(rk!).1;exact W.isi_call I.kIn (λM A' Q' E' s' k q=>GM qO_) (by simp[W.isIn]) dz! ⟨d1_,H,I,rfl,q⟩
def FI(C1:yz!)(c:yz!):Option D:=if c=C1 then some u_ else none
def CF(C1:yz!)(c:yz!):Option V:=if c=C1 then some u_ else none
def b8o{en xC:Str}{ie:Nat}(hN:rl!)(hk:X.env.scope.names.lookup en=some .local)(hg:nM_)(hm:nL_)(hv:nM!)(lq:Gl X xC)(lu:rl_)
  (hd:fy!:=by decide)(v6:rn!:=by decide)(v7:rn_:=by decide)
  (he:ro!:=by rfl)(g9:rp!:=by rfl)
  (ar:(backTo pos rp_).any c_=false:=by rfl):
  ∀a pn oe c,ds_∈pn->EC oe aF_->PE hD! (.Call rq! ls! [] pos) λZ H Q=>Z[ie]?=some gI!/\∃v,CF C1 c=some v/\Q v H:=λa pn oe c hp hc h1 s Z H Q I ⟨e1,v,e2,q⟩=>by
 unfold CF at e2;split at e2
 .rename_i h;subst h;cases e2;exact jY (X:=de_) b0u hg hm hv (cO rq_ (cO (xF (X:=de_) (v:=V.ref c) lq lu rfl hd) fI g9) he) b_ b_ he ar h1 s Z H Q I ⟨bb!,e1,a,c,oe,rfl,hp,hc.1,q⟩
 .cases e2
def hvw(h:W.subIn X.K (.ref C1) aq!=some true):∀c d,FI C1 c=some d->W.subIn X.K aF_ aq!=some true/\∃v,CF C1 c=some v/\∀G,Aj X.K G d v:=λc d e=>by
 unfold FI at e;unfold CF;show"!6"
 .rename_i h';subst h';cases e;exact⟨h,_,A!,λG=>Aj.bl⟩
 .cases e
end
end DL
namespace DL
open PySem PySem.Spec PyProof.Rows L2
end DL
namespace DL
open PySem PySem.Spec PyProof.Rows L2 XS
section
variable{X:Cx}{own own1 jp:List Nat}{st:Stmt}{rest body b1 b2:List Stmt}{e c tg:Expr}{es:List Expr}{pos p2:Pos}{f:WE}{fs:WA}{ft:WT}{fi:WI}{q1 q2:WS}{M0:Mh}{G0 F0:Hp}{E:EK}
def Gm.lv{M M1:Mh}{G1 H1:Hp}{Z:St}{ρ:Ab}(hX:fz!)(sr:Gm X.prog X.w X.K own M0 G0 F0 M1 G1 H1 Z ρ):Lv X (XR X.prog X.w X.K M1 G1 dL_ E):=
 λp1 p2 p3 p4 p5 p6 p7 p8 p9 zh zi zj zk ⟨c,M',G',Y,h2,h3,h4⟩=>hX p1 p2 p3 p4 p5 p6 p7 p8 p9 zh zi zj zk ⟨c,M',G',Y,h2,sr.unx h3,h4⟩
def b3y{g:TG}{bnd:aM_}(hX:fz!)(hp:d4!)(hc:aq_)(al:kj!)(hg:hP!)(j8:Bk!)
  (hb:∀M1 G1 F1,Lv X (XR X.prog X.w X.K M1 G1 F1 E)->Lx X body (TX X M1 G1 F1 own own q1))
  (hs:b5_:=by intro _;rfl):PS X lN_ (TX X M0 G0 F0 own own Bk_):=λh1 s Z H D I ⟨G,ρ,M,R,sr,e,k1,k2⟩=>by
 have ic:Lx X body (λD Z H=>∃A B C,Lv X (XR X.prog X.w X.K A B C E)/\TX X A B C own own q1 D Z H):=λh1 s Z H D I ⟨A,B,C,l,h⟩=>hb A B C l h1 s Z H D I h;refine a3w hp hc al.ok hg ic hs h1 s Z H D I Bl!;have mq:=sr.grow x1 m1;refine⟨λn m ae H'=>n<=e_/\m=e_ - n/\∃G' ρ' M',Gm X.prog X.w X.K own M1 G1 dL_ M' G' H' ae ρ'/\El bnd ck q1 iX! ρ' M' R,
  Bl_,?_⟩
 rintro n m ae H' ⟨hn,rfl,G',ρ',M',b8,e3⟩;have c9:ck M':=by
  cases hd:ds.drop n with
  |nil=>rw[hd]at e3;exact e3.1
  |cons _ _=>rw[hd]at e3;exact e3.1
 show"!S"
 .right;have hd:ds[n]?=some ds[n]:=by simp[ai]
  rw[KA ai]at e3;obtain⟨_,e3⟩:=e3;show"!=";exact j8 uj r2 e4 λf7 rm=>⟨M1,G1,Dv own Z H1,mq.lv (M:=M) hX,G2,aj,M',_,rm,e3,Bn!,Bn_⟩
 .left;have f9:n=e_:=by omega
  refine jo_;rw[f9,ON]at e3;exact k1 ρ' M' G' ae H' e3.2 Bo!
def a7d{KF:zr!}{mg:L!}{outer:ai!}{H:Hp}{E:XK}:
  PassesOwn v! (lu!).A (lu!).env (lu!).xe:=PassesOwn.leaving
end
def Zn:D->Prop
 |.int i=>cB!<10 ^ 60
 |.str x=>cC_<=1000
 |.tup [.int i,.int j]=>cB!<10 ^ 60/\j.natAbs<10 ^ 60
 |_=>False
def b4r{v:Int}(h:v.natAbs<10 ^ 60):v.natAbs.log2<1920:=by
 by_cases z:v.natAbs=0
 .rw[z];decide
 .exact(Nat.log2_lt z).mpr (Nat.lt_trans h k_)
def b4u{i:Int}(h:cB!<10 ^ 60):(Str.ofString lv!).length<=61:=by rw[PySem.ofString_length];exact int_text_length_le10 b_ h
section
variable{pos p1 p2 p3:Pos}
def c0g(hr:bc!)(I:a_)(sub:B!)(r:Aj X.K G d v)(rv:aT!)(hd:Zn d)
  (hQ:∀x t s',cC_<=1000->Inv X h1 Z H s'->Q fm_ s'):wpAny e! X.A (formatField u Str.empty) Q X.xe s:=by
 have big:100000<=sizeLine:=by decide
 unfold Zn at hd;split at hd
 .rename_i i;cases aX r;obtain⟨t,rfl⟩:=rv;have:=b4u hd;exact formatField_int_small (b4r hd) (hQ _ _ _ a! ((eb_).tok _))
 .rename_i x;cases bT r;obtain⟨t,rfl⟩:=rv;exact formatField_str (λt' tk=>hQ _ _ _ hd (I.tok tk)) a!
 .rename_i i j;obtain⟨a,vs,rfl,qa,rr⟩:=bN r;obtain⟨v1,t1,rfl,r1,rr⟩:=bE rr;obtain⟨v2,t2,rfl,r2,rr⟩:=bE rr;cases bY rr;cases aX r1;cases aX r2;cases (show u=Value.ref a from rv);obtain⟨its,vr,⟨o,Y,h2,n,h3⟩,_⟩:=I.tuple (bS sub qa);obtain⟨u1,u2,rfl,w1,w2⟩:=uW vr;obtain⟨k1,rfl⟩:=w1;obtain⟨k2,rfl⟩:=w2;have l1:=b4u hd.1;have l2:=b4u hd.2;have ls:(rv_).shown.length<=1000:=by
   show(tupleText [Str.ofString lv!,Str.ofString rw!]).length<=1000;show((Str.ofString "(")++(Str.ofString lv!++Str.ofString ", "++Str.ofString rw!)++Str.ofString ")").length<=1000;have e1:(Str.ofString "(").length=1:=by decide+kernel
   have e2:(Str.ofString ", ").length=2:=by decide+kernel
   have e3:(Str.ofString ")").length=1:=by decide+kernel
   simp only[Str.length_append];omega
  have un:=hr.un;have dp:(rv_).depth<=5:=by simp[PyData.depth,PyData.depthAll]
  refine formatField_of_reads (d:=.tuple lL_) (.tuple Y h2 h3 (.cons (.int i k1) (.cons (.int j k2) .nil))) (by simp[PyData.showable,PyData.showableAll,b4r hd.1,b4r hd.2]) (λz=>by simp[PyData.hasDict,PyData.hasDictAll]at z) hr.gd a! (λb o e=>e) (λh' u tk hk=>?_) a!;exact hQ _ _ _ ls ((I.un (t':=s.toks) (Un.kept hk) (I.hok.kept hk)).tok tk)
 .exact hd.elim
nonrec def g0:Ab->Prop:=λ_=>True
nonrec def gN(i:Nat)(g:lw_):Ab->Prop:=λρ=>(∃d,ρ[i]?=some be_/\Zn d)/\g ρ
structure FJ(X:Cx)(own:l!)(n:Nat)(es:cx_)(g:lw_):Prop where
 ok:∀(h1:r!) (s:yM!) (Z:St) (G H:Hp) (ρ:Ab) (out:Str) (Q:J_),Inv X h1 Z H s->OR X.K own G H Z ρ->g ρ->out.length+n<=100000->(∀x t s',Inv X h1 Z H s'->Q fm_ s')->wpAny e! X.A (joinParts out (evalEach es X.env)) Q X.xe s
def zH:FJ X own 0 [] g0:=⟨λh1 s Z G H ρ out Q I er _ hl hQ=>by
 have big:100000<=sizeLine:=by decide
 exact joinParts_nilE (joinParts_nil (hQ _ _ _ eb_) a!)⟩
def a5f(h:rz!):FJ X own (s2.length+n) (.Constant (.str s2) j p1::es) g:=⟨λh1 s Z G H ρ out Q I er hg hl hQ=>by
 have big:100000<=sizeLine:=by decide
 exact joinParts_consE (joinParts_cons (Calls.Constant_str ⟨rz_,h.ok h1 _ Z G H ρ _ Q eb_ er hg rA! hQ⟩))⟩
def c0j(hr:bc!)(hN:ac!)(hv:cy!)(hi:aC!)(h:rz!)(hd:x!:=by decide)(bz:cy_:=by decide):
  FJ X own (1000+n) (.FormattedValue (.Name x p1) (-1) none p2::es) (gN i g):=⟨by
 rintro h1 s Z G H ρ out Q I er ⟨⟨d,e1,hs⟩,hg⟩ hl hQ;have big:100000<=sizeLine:=by decide
 obtain⟨v,f1,f2⟩:=er.at_ i _ e1 hi;refine joinParts_consE (joinParts_cons (FormattedValue_plain (cW (jC hN hv hd bz h1 s Z H (λw H'=>w=v/\H'=H) I ⟨_,f1,rfl,rfl⟩) ?_)));rintro u s' ⟨y,H',I',r,rfl,rfl⟩;exact c0g hr I' er.sub f2 r hs λy t s2 hy I2=>⟨rz_,h.ok h1 _ Z G _ ρ _ Q I2 er hg rA! hQ⟩⟩
def Nk(g:lw_):WE:=λρ M R=>g ρ/\∀x,R b2_ M
def yB(h:FJ X own n rB_ g)(hn:n<=100000:=by decide):ME X own (.JoinedStr rB_ pos) (Nk g):=⟨λh1 s Z H Q I ⟨G,ρ,M,R,st,⟨e1,e2⟩,k⟩=>
 JoinedStr_many (h.ok h1 s Z G H ρ Str.empty _ I st.or e1 (by show 0+n<=_;omega) λx t s' I'=>⟨.str x,H,I',I_,k _ M _ G H (e2 x) jY_ st.mr Aj.str⟩)⟩
end
end DL
namespace DL
open PySem PySem.Spec PySem.Calls PyProof.Rows L2 XS
structure Mo(KF:zr!)(D C:yz!):Prop where
 mk::
 ga:W.findIn KF aB_ "__getattribute__"=some rC!
 gh:W.findIn KF aB_ "__getattr__"=some none
 ha:W.findIn KF aB_ "__class__"=some (some df!)
 hn:W.specialIn KF df! "__get__"=some (some hO!)
 ht:W.takesIn KF df!=some true
 hm:W.mroIn KF D rD_=some true
 hc:∃cd,W.clsIn KF D=some cd
 sb:W.subIn KF aB_ hB_=some true
 ne:D≠C
 cc:∃cd,W.clsIn KF C=some cd
 ty:W.typeIn KF H_=some rE!
 sc:W.subIn KF aB_ H_=some false
section
variable{P:yL!}{w:yK!}{A:yA!}{E:Value->Shared->Prop}{s:yM!}{KF:zr!}{x C D:yz!}{ox:Obj}
def c5q{Q:rE_}(X:bm!)(I:d2!)(n:d2_)(h:Q (.done (.ret aB_)) s):
  wpAny v! A (Builtin.«object.__getattribute__» ⟨[dj_,.str "__class__" tk],[]⟩) Q E s:=by
 have hf:W.findObj KF D none "__class__"=some (.bind hO! df!):=by
  obtain⟨cd,hc⟩:=n.hc;unfold W.findObj;rw[hc,KC,n.ha,KC];simp[n.hn,n.ht]
 show"!K";have L1:=W.looks_find (M:=bD!) X I hf;unfold Builtin.«object.__getattribute__»;show"!R";refine GM (GP rG_);show"#=";unfold Builtin.ObjectAttr.bindTo;show"#=";show wpAny _ _ (holding [rH!] (PySem.call hO! [rH!,dj_,.ref D])>>=ret) _ _ _;exact GM (IR (wpAny_call (W.class_get (s:=⟨hh,g,d,t,os⟩) (ox:=ox) (od:=none) X I n.hm eZ_)))
def c0m{Q:Unit->Shared->Prop}(X:bm!)(I:d2!)(n:d2_)(h:Q () s):wpAny v! A (checkBuiltinCall "BaseException.__getattribute__" ⟨[dj_,nv],[]⟩) Q E s:=by
 have hk:builtinKind "BaseException.__getattribute__"=some .slot:=by decide+kernel
 have hp:splitId "BaseException.__getattribute__"=some ("BaseException","__getattribute__"):=by decide+kernel
 have ha:=F.args_bexc_ga bA! nv;show"!K";have L1:=RS (M:=bD!) X n.sb;simp only[checkBuiltinCall,hk,hp];refine GM ?_;unfold isInstance;refine GM (L0.at lh!)
 repeat (any_goals (first|assumption|wp_step))
def c5r{f ex:Bool}{Q:J_}(X:bm!)(I:d2!)(n:d2_)(h:Q aB_ s):
  wpAny v! A (getAttrBy bA! (.str "__class__" tk) f ex) Q E s:=by
 have fb:=F.attr_ValueError.ga.bind bA!;have h0:(ex&&onTheHeap (Value.builtin "BaseException.__getattribute__"))=false:=by cases ex<;>rfl
 have h2:(Value.builtin "BaseException.__getattribute__"==Value.builtin "object.__getattribute__")=false:=by decide+kernel
 have Y:(onTheHeap rJ!&&Value.builtin "BaseException.__getattribute__"==Value.builtin "object.__getattribute__")=false:=by rw[h2];rfl
 show"!K";have L1:=W.looks_findIn (M:=bD!) X n.ga;have L2:=W.looks_findIn (M:=bD!) X n.gh;unfold getAttrBy;refine IR rG_;show"#=";rw[HA (by rw[Y];decide)];unfold getAttrByItsOwn hookBefore;rw[HC (show onTheHeap rJ!=true from rfl)];refine GM (L2.at (GM (ML (IR ?_))));unfold callGetattribute boundAndCalled;rw[HA (by rw[h0];decide),fb];show"!R";refine wpAny_call (codeAny_call_builtin F.attr_ValueError.ga.plain F.entry_bexc_ga (c0m X I n (c5q X I n ?_)));exact W.handed_on rfl h
def c0l{Q:Option Value->Shared->Prop}(X:bm!)(I:d2!)(n:d2_)(h:Q (some aB_) {s with toks:=s.toks+1}):wpAny v! A (getAttr? bA! "__class__") Q E s:=by unfold getAttr? getAttrBy?;exact GM (wpAny_mkText (GM (ML (c5r (s:=h3_) X I n eZ_))))
def b5w{dep:Int}{Q:rE_}(X:bm!)(I:d2!)(n:d2_)(h:Q (.done (.ret lB!)) {s with toks:=s.toks+1}):
  wpAny v! A (Builtin.«isinstance.nested» ⟨[dj_,.ref C,.int dep tk],[]⟩) Q E s:=by
 have VB:∀{B:yz!},(W.clsIn KF B).isSome=true->W.Looks v! s.heap (isType (.ref B)) true:=λ{B} z=>by
  unfold W.clsIn at z;split at z
  .show"!j"
  .cases z
 have LD:=VB (B:=D) (by obtain⟨cd,hc⟩:=n.hc;rw[hc];rfl);have LC:=VB (B:=C) (by obtain⟨cd,hc⟩:=n.cc;rw[hc];rfl);have Lt:=W.looks_typeIn (M:=bD!) X n.ty;have Ls:=RS (M:=bD!) X n.sc;have hne:(Value.ref D==Value.ref C)=false:=Bool.eq_false_iff.mpr λq=>n.ne (Value.ref.inj (JC.mp q));obtain⟨h0,g,d,tt,os⟩:=s;have L0:=I.type (M:=bD!);have LI:W.Looks v! h0 (isInstance bA! H_) false:=L0.andThen Ls;unfold Builtin.«isinstance.nested»;refine GM (L0.at ?_);rw[HA (λq=>by rw[hne]at q;exact Bool.noConfusion q)];refine GM (Lt.at ?_);rw[HC b_]
 k_delta "plainIsInstance"
 refine GM (GM (LC.at ?_));show"#2";refine GM (LI.at ?_);show"!v";refine GM (c0l X I n ?_);refine GM (LD.at ?_);show"#2";refine GM (KH (Ls.at ?_))
 first
  |exact GP h
  |exact GP eZ_
  |exact GM jQ_
def b5x{Q:J_}(X:bm!)(I:d2!)(n:d2_)(h:Q lB! {s with toks:=s.toks+1}):wpAny v! A (PySem.call eL_ [dj_,.ref C]) Q E s:=
 call_isinstance (S:=λ_ R s=>(KF.In s.heap/\W.InstAt s.heap x ox D none)/\R (.ok (.ret lB!)) {s with toks:=s.toks+1})
  (λ_ _ _ _ _ hs=>isinstance_outer (b5w hs.1.1 hs.1.2 n hs.2) qV!) ⟨⟨X,I⟩,h⟩
end
end DL
namespace DL
open PySem PySem.Spec PyProof.Rows L2 XS
section
variable{X:Cx}{own:List Nat}{pos p1 p2 p3 p4 p5:Pos}{ie:Nat}{en xC:Str}{C0 C1 D0:yz!}{l:List (Addr×Int)}{e:Expr}{i:Int}
def b0v:Hb X eL_ λxs H Q=>∃a D C1 oe,xs=rk_/\ds_∈X.pn/\EC oe aB_/\Mo X.K D C1/\Q X! H:=by intro h1 s Z H xs us Q I r h;obtain⟨a,D,C1,oe,rfl,hp,hc,n,q⟩:=h;obtain⟨u,w',rfl,r1,r2⟩:=uW r;cases rj!;cases rj_;have he:=(rk!).1;exact b5x I.kIn ⟨he,hc.1,hc.2.2,by rw[hc.2.1];trivial⟩ n ⟨hI_,H,I.kept (t':=s.toks+1) λb o z=>z,rfl,q⟩
def HE(X:Cx)(ie:Nat)(e:Expr)(hw:rf!):Prop:=∀a pn oe c,ds_∈pn->EC oe aF_->PE hD! e λZ H Q=>Z[ie]?=some gI!/\∃v,hw c=some v/\Q v H
def Wf(l:hQ_)(c:yz!):Option D:=(rP!).map .int
def Zp(l:hQ_)(c:yz!):Option V:=(rP!).map .int
def NI(KF:zr!)(l:hQ_)(C1:yz!):Prop:=∀c i,l.lookup c=some i->Mo KF c C1
def a4o{KF:zr!}:NI KF [] C1:=λc i e=>by cases e
def xQ{KF:zr!}(h:Mo KF D0 C1)(t:NI KF l C1):NI KF ((D0,i)::l) C1:=λc j e=>by
 rw[II]at e;show"!6"
 .rename_i z;rw[JC.mp z];exact h
 .exact t c j e
def c8p:HE X ie e (Zp []):=λa pn oe c hp hc h1 s Z H Q I ⟨_,v,z,_⟩=>by cases z
def a5c{k:Nat}{rest:Expr}{j:Nat}(hN:rl!)(hk:X.env.scope.names.lookup en=some .local)(hg:nM_)(hm:nL_)(hv:nM!)(lq:Gl X xC)(lu:rl_)(n:NI X.K l C1)(hr:HE X ie rest (Zp l))
  (hd:fy!:=by decide)(v6:rn!:=by decide)(v7:rn_:=by decide)
  (he:ro!:=by rfl)(g9:rp!:=by rfl)
  (ar:(backTo p4 rp_).any c_=false:=by rfl):
  HE X ie (.IfExp (.Call rq! ls! [] p4) (.UnaryOp .USub (.Constant fD! j p5) p6) rest pos) (Zp ((C1,-k)::l)):=λa pn oe c hp hc h1 s Z H Q I ⟨e1,v,e2,q⟩=>by
 unfold Zp at e2;rw[II]at e2;split at e2
 .rename_i z;cases JC.mp z;cases e2;exact mQ (X:=de_) (xE (b8o hN hk hg hm hv lq lu hd v6 v7 he g9 ar a pn oe C1 hp hc)) rU_ (hr a pn oe C1 hp hc) h1 s Z H Q I ⟨e1,d1_,A!,true,rfl,jS ⟨_,rfl,q⟩⟩
 .rename_i z;obtain⟨j,e3,rfl⟩:=GX.mp e2;exact mQ (X:=de_) (xE (jY (X:=de_) b0v hg hm hv (cO rq_ (cO (xF (X:=de_) (v:=V.ref C1) lq lu rfl hd) fI g9) he) b_ b_ he ar)) rU_ (hr a pn oe c hp hc) h1 s Z H Q I ⟨bb!,e1,a,c,C1,oe,rfl,hp,hc,n c j e3,false,rfl,jT ⟨e1,_,e2,q⟩⟩
end
section
variable{X:Cx}{own:List Nat}{pos:Pos}{C0 D0:yz!}{l:List (Addr×Int)}{e:Expr}{es:List Expr}{i:Int}{f:WE}{fs:WA}{M0:Mh}{G0 F0:Hp}{E:EK}
def Wp(P:yL!)(w:yK!)(KF:zr!)(M0:Mh)(G0 F0:Hp)(own:l!)(fs:WA):TA:=λZ H Q=>∃G ρ M R,Gm P w KF own M0 G0 F0 M G H Z ρ/\fs ρ M R/\∀ds M' vs G' H',R ds M'->XM M G H M' G' H'->MR P w KF M' G' H'->Af KF G' ds vs->Q vs H'
def c9a(h:e2_):PA X es lF!:=λpos h1 s Z H Q I ⟨G,ρ,M,R,sr,e,k⟩=>h.ok pos h1 s Z H Q I rW!
def c8r(h:a4!):PE X e rd_:=λh1 s Z H Q I ⟨G,ρ,M,R,sr,e,k⟩=>h.ok h1 s Z H Q I rW!
def a8g(h:lq_)(hs:PA X es lF!)(hst:T!:=by rfl):PA X am! (Wp X.prog X.w X.K M0 G0 F0 own (Aa f fs)):=
 λpos h1 s Z H Q I ⟨G,ρ,M,R,sr,e',k⟩=>cO h hs hst pos h1 s Z H Q I ⟨G,ρ,M,_,sr,e',λd M1 v G1 H1 r1 x1 m1 q1=>⟨G1,ρ,M1,_,sr.grow x1 m1,r1,λds M2 vs G2 H2 r2 x2 m2 q2=>
  k _ M2 _ G2 H2 r2 bh! m2 Af!⟩⟩
def b3z{k:Nat}{ps:D!}{g:Us}{x:Str}(hX:fz!)(F:rc_)(hr:bc!)(hg:D_)(ha:PA X am! lF!)
  (au:x!:=by decide)(he:T!:=by rfl)(ar:ar!:=by rfl):
  PE X az! rb!:=by
 show"#8";refine qO Y hr hg h3 h4 h2 .nil rb_ ha au he ar h1 s Z H Q I ⟨G,ρ,M,_,sr,e',pd!⟩;show"#4";refine⟨pd_,G1,ds,M1,R,E,x1.sub,m1,q1,r1.2,j0!,λcls H' ⟨c,M',G',h5,h6,h7,h8⟩=>?_⟩;exact rd!
def CK(KF:zr!)(l:hQ_)(C0:yz!):Prop:=∀c i,l.lookup c=some i->W.subIn KF aF_ aq!=some true
def c3f{KF:zr!}:CK KF [] C0:=λc i e=>by cases e
def xA{KF:zr!}(h:W.subIn KF (.ref D0) aq!=some true)(t:CK KF l C0):CK KF ((D0,i)::l) C0:=λc j e=>by
 rw[II]at e;show"!6"
 .rename_i z;rw[JC.mp z];exact h
 .exact t c j e
def c9m(h:CK X.K l C0):∀c d,Wf l c=some d->W.subIn X.K aF_ aq!=some true/\∃v,Zp l c=some v/\∀G,Aj X.K G d v:=λc d e=>by
 unfold Wf at e;obtain⟨i,e1,rfl⟩:=GX.mp e;exact⟨h c i e1,_,by unfold Zp;rw[e1];rfl,λG=>Aj.int⟩
end
end DL
namespace DL
open PySem PySem.Spec PyProof.Rows L2
def FF:Option lF_->Array Value
 |none=>#[]
 |some (b,t)=>#[.int b t,.int b t]
def Vo(k:Int):Option lF_->List Int->Int
 |some (b,_),xs=>xs.foldl max b
 |none,x::xs=>xs.foldl max x
 |none,[]=>k
section
variable{s:yM!}{full:List Value}{k:Int}
def rO{h h':Heap}(k:∀b o,b∉[I]->h.get? b=some o->h'.get? b=some o):∀b o,b≠I->b≠S->h.get? b=some o->(h'.update S f).get? b=some o:=λb o b1 b2 e=>(IG _ _ (IA b2)).trans (k b o lG! e)
def b1j:(FF (some (b,t))).size<=sizeLine:=by show 2<=sizeLine;rw[JI];decide
def a6z(hh:bn_)(zl:l≠I)(uz:S≠I)(zm:S≠l):∀(xs:v_) (us:j_) (j:Nat) (acc:Option lF_) (h:Heap) (tk c:Nat),full.drop j=us->j<=hT!->IntsAre us xs->(acc=none->xs=[]->∃t,kw=[(Str.ofString "default",.int k t)])->
  h.IsListIter I l j->h.IsList l hT_->h.get? S=some (seqObj "list" (FF acc) c)->
  (∀t h' d9,rY!->R (.ok (.ret (.int (Vo k acc xs) t))) {s with heap:=h',toks:=d9})->
  codeAny v! A rZ! R {s with heap:=h,toks:=tk}
 |[],us,j,acc,h,tk,c,hd,hj,hi,ha,it,il,hS,hR=>by
  have W:=Walks.list (prog:=P) (w:=w) (A:=A.in1) hh I l zl hT_;cases hi;have e1:hT!<=j:=List.drop_eq_nil_iff.mp hd;have ej:j=full.toArray.size:=by rw[GW];omega
  refine OI PySem.F.entry_max_loop ?_;rw[PD LR];refine GM r0!;refine GM (RH (W.done _ _ _ ⟨by rw[<-ej];exact it,il⟩ λh' d9 k=>?_))
  match acc,ha with
  |none,ha=>
   obtain⟨t,rfl⟩:=ha rfl rfl;exact GM (KH (GP (hR t _ _ λb o b1 b2 e=>k b o lG! e)))
  |some (b,t),_=>
   exact GM (QU (hz:=b1j) (k S _ r0_ hS) rfl (GM (NO (GP (hR t _ _ (rO k))))))
 |x::xs,us,j,acc,h,tk,c,hd,hj,hi,ha,it,il,hS,hR=>by
  have W:=Walks.list (prog:=P) (w:=w) (A:=A.in1) hh I l zl hT_;have nm:r1!="max.loop":=by decide
  cases hi with
  |@cons _ t us _ hi=>
   have ai:j<hT!:=by
    obtain z|z:=KN j hT!
    .exact z
    .rw[List.drop_eq_nil_iff.mpr z]at hd;cases hd
   have hv:full[j]?=some (.int x t):=by
    have:=congrArg (·[0]?) hd;simpa[List.getElem?_drop]using this
   have j1:full.drop bl!=us:=by
    rw[<-List.tail_drop,hd];rfl
   refine OI PySem.F.entry_max_loop ?_;rw[PD LR];refine GM r0!;have go:∀(y:Int) (ty:Tok),y=max (Vo k acc [x]) y->∀(h':Heap) (d9 c':Nat),rY!->h'.IsListIter I l bl!->h'.IsList l hT_->h'.get? S=some (seqObj "list" #[.int y ty,.int y ty] c')->Vo k acc id_=xs.foldl max y->
     codeAny v! A rZ! R {s with heap:=h',toks:=d9}:=λy ty _ h' d9 c' k ZG ZH jx e=>
    a6z hh zl uz zm xs us bl! (some (y,ty)) h' d9 c' j1 ai hi hq! ZG ZH jx λt' h2 ZI k2=>by
     have:=hR t' h2 ZI λb o b1 b2 e=>k2 b o b1 b2 (k b o b1 b2 e);rw[e]at this;show"#-"
   refine GM (RH (W.item j _ _ _ (by rw[GW];exact ai) ⟨it,il⟩ λv h' d9 hP st k=>?_));have ev:v=.int x t:=by
    have:full[j]?=some v:=by simpa using hP
    rw[hv]at this;exact(IW this).symm
   subst ev;have jx:=k S _ r0_ hS;have kk:∀b o,b≠I->b≠S->h.get? b=some o->h'.get? b=some o:=λb o b1 _ e=>k b o lG! e
   match acc,hR,jx,go with
   |none,hR,jx,go=>
    show wpAny _ A.in1 (updateSeq S (λ_=>#[.int x t,.int x t])>>=_) _ _ _;refine GM (QU jx rfl ?_);rw[nm];refine GP ⟨NR LR _,go x t (by simp[Vo]) _ _ _ (rO k) ?_ ?_ r3! rfl⟩
    .obtain⟨o,e1,e2⟩:=st.1;exact r3_
    .obtain⟨o,e1,e2⟩:=st.2;exact r4!
   |some (b,tb),hR,jx,go=>
    show wpAny _ A.in1 (tryCatch (holding [.int x t,.int x t] (richCompare .Gt (.int x t) (.int b tb)>>=_)) _>>=_) _ _ _;refine GM (RH (IR (GM (CmpOf.ints_gt (prog:=P) (w:=w) (A:=A.in1) (P:=λi v=>∃t,v=.int (if i=0 then x else b) t) (λi=>if i=0 then x else b) (λi v h=>h) 0 1 _ _ _ _ _ ex! ⟨tb,rfl⟩ ?_))));refine GM (IR (IV ?_));refine GM (NO K_);show wpAny _ A.in1 (if decide (x>b)=true then _ else _) _ _ _;by_cases g:x>b
    .rw[HF g,A!];refine GM (QU (hz:=b1j) jx rfl (GM (NO ?_)));rw[nm];refine GP ⟨NR LR _,go x t r5_ _ _ _ (rO k) ?_ ?_ r3! (by show(id_).foldl max b=_;rw[OB,show max b x=x by omega])⟩
     .obtain⟨o,e1,e2⟩:=st.1;exact r3_
     .obtain⟨o,e1,e2⟩:=st.2;exact r4!
    .rw[HB g,L_];refine GM (NO ?_);rw[nm];exact GP ⟨NR LR _,go b tb r5_ _ _ _ kk st.1 st.2 jx (by show(id_).foldl max b=_;rw[OB,show max b x=b by omega])⟩
end
end DL
namespace DL
open PySem PySem.Spec PyProof.Rows L2
def b0w:∀(a:yB!) (k:qB!),argsOk "max" ⟨[a],(k.map λv=>r7_).toList⟩
 |_,none=>by unfold argsOk;kernel_rfl
 |_,some _=>by unfold argsOk;kernel_rfl
def c6o:bootBuiltins "max"=some r8!:=by decide+kernel
section
variable{s:yM!}{k:Int}
def b4l(hh:bn_)(hl:CP!)(hi:IntsAre us xs)(hne:xs=[]->∃t,dv=some (.int k t))
  (hQ:∀t h' d9,r8_->Q (.int (Vo k none xs) t) {s with heap:=h',toks:=d9}):
  wpAny v! A (call r8! [hf_] (sa!).toList) Q E s:=by
 have nm:r1!="max.loop":=by decide
 obtain⟨ol,ZJ,_⟩:=id hl;have VC:l<g_:=HP ZJ;refine kmb_tree PySem.F.kind_max PySem.F.plain_max PySem.F.entry_max (b0w _ _) ?_;refine GM (wpAny_of_eq (show Builtin.Builtins.bindParams "max" ["key","default"] 0 ⟨[],(sa!).toList⟩=pure [none,dv]by cases dv<;>rfl) ?_);refine GM (GP (GM (wpAny_pyIter_list hl (GM pV!))));rw[nm];generalize hG:s.heap.push {cls:=.type "list_iterator",data:=.fields #[.ref l,.int 0 0]}=G;have hS:G.objs.size=g_+1:=by rw[<-hG];exact size_push' ..
 have gI:G.get? g_=some {cls:=.type "list_iterator",data:=.fields #[.ref l,.int 0 0]}:=by rw[<-hG];exact HM _ rfl
 have gk:∀b o,s.heap.get? b=some o->G.get? b=some o:=λb o e=>by rw[<-hG];exact GQ _ e
 refine GP ⟨NR LR _,a6z (full:=us) (l:=l) (I:=g_) (S:=G.objs.size) hh (IH VC) (by rw[hS];exact LY (OL _)) (by rw[hS];exact LY (PQ VC)) xs us 0 none _ _ 0 rfl bv! hi (λ_ z=>by obtain⟨t,rfl⟩:=hne z;exact ex!)
  ⟨_,GQ _ gI,rfl,rfl⟩ ?_ jE_ λt h' d9 k=>hQ t h' d9 λb o e=>?_⟩
 .obtain⟨o,e1,e2⟩:=hl;exact⟨o,GQ _ (gk _ _ e1),e2⟩
 .have hb:=HP e;exact k b o (IH hb) (by rw[hS];exact IH (PQ hb)) (GQ _ (gk b o e))
end
section
variable{p p2 kp pos:Pos}{k:Int}
def a2c:∀{xs:v_} {us:j_},Aq (xs.map V.int) us->IntsAre us xs
 |[],_,.nil=>.nil
 |x::xs,_,.cons r t=>by obtain⟨tk,rfl⟩:=r;exact .cons x tk (a2c t)
def Vp(k:aA!):List D->Option D
 |[.lst ds]=>(Ol ds).bind λxs=>if xs=[]then k.map .int else some sd!
 |_=>none
def c8d{k:aA!}(h:(if xs=[]then k.map D.int else some sd!)=some d):∃i,d=.int (Vo i none xs)/\(xs=[]->k=some i):=by
 match xs with
 |[]=>obtain⟨i,e,rfl⟩:=GX.mp h;exact⟨i,rfl,λ_=>e⟩
 |x::xs=>cases h;exact⟨0,rfl,λz=>by cases z⟩
def b9j(ZK:Gl X "max")(zd:X.mg "max"=none)(hc:aq_)(ha:ME X own e fa)(he:jm!:=by rfl):
  ME X own (.Call (.Name "max" p) [e] [⟨some "default",.Constant fD! j p2,kp⟩] pos) (w1 (λ_=>Vp pr!) (Aa fa Ac)):=⟨by
 rintro h1 s Z H Q I ⟨G,ρ,M,R,st,e1,kq⟩;refine LL (iD I ZK zd c6o ?_ b_ b_);refine callWith_kw (cW ((aF ha aP he).ok pos h1 s Z H _ I ⟨G,ρ,M,_,st,e1,λds M1 vs G1 H1 r1 x1 m1 q1=>(⟨ds,M1,G1,r1,x1,m1,q1⟩:∃ds M1 G1,Du (Vp pr! ds) (λd=>R d M1)/\XM M G H M1 G1 H1/\MR X.prog X.w X.K M1 G1 H1/\Af X.K G1 ds vs)⟩) ?_) kK! kK! rfl rfl;rintro us s1 ⟨vs,H1,I1,r,ds,M1,G1,r1,x1,m1,q1⟩;refine kws_cons (wpAny_Constant_int CR_);obtain⟨d,Y,h2⟩:=cC r1;unfold Vp at Y;split at Y
 .rename_i q9;obtain⟨xs,e2,Y⟩:=GN.mp Y;obtain⟨v,t,rfl,rv,rr⟩:=bE q1;cases bY rr;obtain⟨l,vs,rfl,sq,rx⟩:=bJ rv;rw[vF rx e2]at sq;obtain⟨its,hv,pl,hz⟩:=I1.list CS!;obtain⟨u,rfl,ru⟩:=mH r;cases ru;obtain⟨i,rfl,hi⟩:=c8d Y;exact b4l (dv:=some _) (s:={s1 with toks:=s1.toks+1}) (I1.ok.hd hc) pl.isList (a2c hv) (λz=>⟨_,by cases hi z;rfl⟩) λt h' d9 kp=>⟨.int _,H1,I1.kept (t':=d9) kp,ex!,kq _ M1 _ G1 H1 h2 x1 m1 Aj.int⟩
 .cases Y⟩
end
end DL
namespace DL
open PySem PySem.Spec PyProof.Rows L2
abbrev En(h:Heap)(e it:yz!)(f:yB!)(b:Bool)(i:Int)(old:yB!):Prop:=
 h.get? e=some {cls:=.type "enumerate",dict:=none,data:=.fields #[f,.bool b,.ref it,rawInt i,.none,old],slots:=#[]}
section
def a0a(h:Q (s.heap.get? a) s):wpAny l_ A (loadIfAlive a) Q E s:=λΓ p hG=>h
def a2n{i T:Nat}{Q:J_}
  (he:En s.heap e it di! b i old)(hT:s.heap.get? T=some oT)(ZL:T≠it)(sh:T≠e)(al:lQ_)(hl:lR!)(hx:sk_)(hne:g1_)
  (hQ:∀h',En h' e it di! true dM_ old->h'.IsListIter it l S!->
   h'.get? g_=some {cls:=.type "tuple",data:=.seq #[.int i s.toks,x]}->hi_=g_+1->
   sj_->Q ba! {s with heap:=h',toks:=s.toks+1}):
  wpAny l_ A (Builtin.«enumerate.__next__» ⟨[.ref e],[]⟩) yJ! E s:=by
 show"!u";show wpAny _ _ sl_ _ _ _;refine GM sm!;refine GM (wpAny_nextOf_list_item al hl hx λh₁ VD si=>?_)
 replace si:Heap.SameBut it hp h₁:=si
 have v8:En h₁ e it di! b i old:=(si.2 e hne).trans he;show wpAny _ _ (field V! 3>>=_) _ _ lS!;refine GM (JB v8 rfl (x:=rawInt i) rfl ?_);show wpAny _ _ (field V! 4>>=_) _ _ lS!;refine GM (JB v8 rfl (x:=bH!) rfl ?_);show wpAny _ _ (mkInt i>>=_) _ _ lS!;refine GM (wpAny_mkInt ?_);show wpAny _ _ (setField V! 3 pg_>>=_) _ _ ⟨h₁,g,d,tk+1,os⟩;refine GM (KP v8 d_ λjb v9 sj=>?_)
 replace sj:Heap.SameBut e h₁ jb:=sj
 replace v9:En jb e it di! b dM_ old:=v9
 show wpAny _ _ (setField V! 4 .none>>=_) _ _ ⟨jb,g,d,tk+1,os⟩;refine GM (KP v9 d_ λg7 wb sv=>?_)
 replace sv:Heap.SameBut e jb g7:=sv
 replace wb:En g7 e it di! b dM_ old:=wb
 show wpAny _ _ (newTuple [.int i tk,x]>>=_) _ _ ⟨g7,g,d,tk+1,os⟩;refine GM (RI ?_);have u0:En (g7.push {cls:=.type "tuple",data:=.seq #[.int i tk,x]}) e it di! b dM_ old:=GQ _ wb;generalize u4:g7.push {cls:=.type "tuple",data:=.seq #[.int i tk,x]}=jn at u0;have hsz:g7.objs.size=fG_:=by rw[sv.1,sj.1,si.1]
 have ZM:e<fG_:=HP he;have ZN:jn.get? fG_=some {cls:=.type "tuple",data:=.seq #[.int i tk,x]}:=by rw[<-u4,<-hsz];exact HM _ rfl
 have ZO:jn.objs.size=fG_+1:=by rw[<-u4,MN,hsz]
 have VE:∀b o,b≠e->b≠it->hp.get? b=some o->jn.get? b=some o:=λb o dz zn hb=>by
  rw[<-u4];exact GQ _ (sv.extBut b o dz (sj.extBut b o dz (si.extBut b o zn hb)))
 have ZP:jn.IsListIter it l S!:=by
  rw[<-u4];obtain⟨o,ho,r⟩:=(VD.extBut sj.extBut lT!).extBut sv.extBut lT!;exact⟨o,GQ _ ho,r⟩
 have ZQ:=VE T oT sh ZL hT;show wpAny _ _ (Builtin.SmallTypes.ownedTupleIsFree V!>>=_) _ _ ⟨jn,g,d,tk+1,os⟩;rw[hsz];clear u4 wb sv v9 sj v8 si VD hsz g7 jb h₁;refine GM ?_;unfold Builtin.SmallTypes.ownedTupleIsFree;refine GM (JB u0 rfl (x:=rawInt T) rfl ?_);show wpAny _ _ (loadIfAlive (((T:Nat):Int).toNat)>>=_) _ _ _;rw[OF];refine GM (a0a ?_);show wpAny _ _ (if(jn.get? T).isNone=true then _ else _) _ _ _;rw[ZQ];show wpAny _ _ (field V! 1>>=_) _ _ _;refine GM (JB u0 rfl (x:=.bool b) rfl ?_);have ag:∀j3,En j3 e it di! true dM_ old->Heap.SameBut e jn j3->Q (.ref fG_) ⟨j3,g,d,tk+1,os⟩:=λj3 zo sw=>
  hQ j3 zo (ZP.extBut sw.extBut lT!) (sw.extBut _ _ (LY ZM) ZN) (by rw[sw.1,ZO]) λb o dz zn hb=>sw.extBut b o dz (VE b o dz zn hb)
 cases b with
 |true=>exact GP (GP ⟨_,rfl,ag jn u0 ⟨rfl,sq!⟩⟩)
 |false=>
  show wpAny _ _ (setField V! 1 ew!>>=_) _ _ _;exact GM (KP u0 d_ λj3 zo sw=>GP (GP ⟨_,rfl,ag j3 zo sw⟩))
def c0p(a:yz!)(xs:bi_)(name:Str)(u:Tok)(VF:typeLookup lW! name=pure none)(ZR:(["__module__","__name__","__qualname__","__doc__","__annotations__"]:List Str).contains name=false)(hsz:name.length+100<=sizeLine):
  Meets (Builtin.«object.__getattribute__» ⟨[bb!,.str name u],[]⟩) (λA R s=>s.heap.get? a=some {cls:=.type "enumerate",dict:=none,data:=.fields xs,slots:=#[]}/\raisesAttr E! name A R s):=
 Meets.of_wp λprog w A R s hs=>by
  show"!u";obtain⟨hx,hs⟩:=hs;have hT:(y1!:yM!).TypeIs E! "enumerate":=st!;unfold Builtin.«object.__getattribute__»
  repeat (any_goals (first|assumption|wp_step))
  simp only[ZR,HX,IU]
  repeat (any_goals (first|assumption|wp_step))
  exact wpAny_raiseAttrError hs.1 hs.2 (attrMsg_fits k_ hsz)
def b6f:entryFor table "enumerate.__getattribute__"=some Builtin.«object.__getattribute__»:=
 entryFor_alias (id':="object.__getattribute__") fI! k_ k_ fI!
def a5j(hx:s.heap.get? a=some {cls:=.type "enumerate",dict:=none,data:=.fields xs,slots:=#[]})(hA:bn_)
  (h:∀h' tk,r8_->Q none {s with heap:=h',toks:=tk}):wpAny l_ A (getAttr? E! "keys") Q E s:=by
 show"!u";have hT:∀d9,(⟨hp,g,d,d9,os⟩:yM!).TypeIs E! "enumerate":=λ_=>st!;have VF:typeLookup lW! "keys"=pure none:=am_miss_of_fast k_;have f1:=sub_AttributeError;have f3:=OU.lookup;have f4:=OU.bind E!;have f5:typeLookup lW! "__getattr__"=pure none:=F.plainAttrs_enumerate.noGetattr;unfold getAttr? getAttrBy? getAttrBy
 repeat (any_goals (first|assumption|exact hT _|((with_reducible show wpAny _ _ (call (Value.builtin "enumerate.__getattribute__") _ _) _ _ _);refine RB OU (hT _) b6f (F.args_enumerate_getattribute_2 _ _) (c0p a xs _ _ VF k_ gE_) ⟨hx,hA,λh' d9 e kh=>?_⟩)|wp_step))
 obtain⟨t',u',he⟩:=kh.there;show wpAny _ _ (getattributeRaised _ _ _ _ _ _ _) _ _ _;unfold getattributeRaised
 repeat (any_goals (first|assumption|wp_step))
 exact h _ _ kh.keeps
end
def wI:entryFor table "dict.update.loop"=some Builtin.«dict.update.loop»:=entryFor_of_tree fI!
def wH:plainId "dict.update.loop"=true:=by decide+kernel
section
variable{xs:List D}
def Zs(X:Cx)(h1:r!)(H:Hp)(h:Heap)(e it:yz!)(i:Nat):Prop:=
 BI!\/∃T b old o,En h e it (rawInt (T:Nat)) b i old/\h.get? T=some o/\(∀v,o.data≠.cell v)/\T≠it/\T≠e/\Eu X h1 H T
def b6d(I:a_)(st:sw!)(al:lQ_)(hl:lR!)(hx:sk_)(hne:g1_)
  (hQ:∀h',Zs X h1 H h' e it S!->h'.IsListIter it l S!->h'.get? g_=some {cls:=.type "tuple",data:=.seq #[.int i s.toks,x]}->
   (∀b o,b∉bi!->s.heap.get? b=some o->h'.get? b=some o)->Q (some ba!) {s with heap:=h',toks:=s.toks+1}):
  wpAny e! A (pyNext V!) Q E s:=by
 have kp:∀{h':Heap},sj_->∀b o,b∉bi!->s.heap.get? b=some o->h'.get? b=some o:=λk b o hb eo=>k b o fq_ fq_ eo;obtain⟨old,he⟩|⟨T,b,old,o,he,hT,hd,Y,h2,hf⟩:=st
 .have ZS:g_≠e:=λz=>KY _ (z▸HP he);have yf:g_≠it:=λz=>by
   obtain⟨o,q,_⟩:=al;exact KY _ (z▸HP q)
  exact wpAny_pyNext_enum_item he al hl hx hne λh' a b c d k=>hQ h' (.inr ⟨_,_,_,_,sw_,c,λv z=>l2!,yf,ZS,I.fpOk u! ei_⟩) b c (kp k)
 .have VG:s.TypeIs V! "enumerate":=sx_;exact GM (ML (JA (name:=eV!) VG OQ
   (IT OQ VG F.entry_enumerate_next
    (a2n he hT Y h2 al hl hx hne λh' a b c d k=>GP (hQ h' (.inr ⟨T,_,_,o,sw_,k T o h2 Y hT,hd,Y,h2,hf⟩) b c (kp k))) sz!)))
def c0o(hh:bn_)(st:sw!)(al:lQ_)(hl:lR!)(hx:items[i]?=none)
  (hQ:BF_):wpAny e! A (pyNext V!) Q E s:=by
 have hg:∃f b old,En s.heap e it f b i old:=by
  obtain⟨old,he⟩|⟨T,b,old,o,he,_⟩:=st
  .exact sz_
  .exact sz_
 obtain⟨f,b,old,he⟩:=hg;have hT:s.TypeIs V! "enumerate":=sx_;refine GM (ML (JA (name:=eV!) hT OQ
  (IT OQ hT F.entry_enumerate_next ?_ sz!)))
 show wpAny _ _ sl_ _ _ _;refine GM sm!;refine GM (wpAny_nextOf_list_end hh al hl hx λh' x jd kh=>?_);obtain⟨o,ho,hc⟩:=kh;refine GM (wpAny_isInstance (T:=on_) (b:=true) ⟨o,ho,hc⟩ isSubtype_stop ?_);exact GP (hQ _ jd)
def b6e(st:Zs X h1 H h e it i)(al:h.IsListIter it l i)(hf:sA!):
  ∃fp:List Addr,(∀b∈bi!,b∈fp)/\lE_/\(∀b∈fp,∃o,h.get? b=some o/\∀v,o.data≠.cell v)/\∀(h2:Heap) (H2:Hp),(∀b∈fp,∀o,h.get? b=some o->h2.get? b=some o)->(∀b∈fp,Eu X h1 H2 b)->Zs X h1 H2 h2 e it i:=by
 obtain⟨oi,q1,_,q2⟩:=al;have hi:∃o,h.get? it=some o/\∀v,o.data≠.cell v:=⟨oi,q1,λv z=>by rw[q2]at z;cases z⟩;obtain⟨old,he⟩|⟨T,b,old,o,he,hT,hd,Y,h2,ZT⟩:=st
 .refine⟨bi!,λb hb=>hb,hf,bD_,λh2 H2 k _=>.inl ⟨old,k e d_ _ he⟩⟩;simp only[GT,JM,NX]at hb;obtain rfl|rfl:=hb
  .exact sA_
  .exact hi
 .refine⟨[T,e,it],λb hb=>GO _ hb,bD_,bD_,λml H2 k k2=>.inr ⟨T,b,old,o,k e d_ _ he,k T d_ _ hT,hd,Y,h2,k2 T d_⟩⟩
  .obtain rfl|hb:=GT.mp hb
   .exact ZT
   .exact hf b hb
  .simp only[GT,JM,NX]at hb;obtain rfl|rfl|rfl:=hb
   .exact⟨o,hT,hd⟩
   .exact sA_
   .exact hi
def b0y(hi:i<g!):sD!=h1_++[(D.int (i:Nat),xs[i])]:=by rw[List.take_succ_eq_append_getElem hi,List.zipIdx_append,HZ,NQ,Nat.min_eq_left a!];simp
def a5u:D.int (i:Nat)∉(h1_).map c_:=λz=>by
 rw[JJ]at z;show"#J";have:=List.snd_lt_of_mem_zipIdx hq;have h2:=D.int.inj e;rw[NQ]at this;omega
def b6h(hc:aq_)(hA:bn_)(hu:A.in1.units<cLine)(hne:g1_)(hq:∀{H:Hp},Ar G H->Ef X.K H l vs)(rl:sE_)(hl:g!<=1000):∀(n i:Nat) (j:Int) (s:yM!) (H:Hp) (M:Mh),g! - i=n->i<=g!->Inv X h1 Z H s->MR X.prog X.w X.K M G H->Ar G H->M c=some (.dct h1_ i)->
  (∀b∈bi!,Eu X h1 H b)->Zs X h1 H s.heap e it i->s.heap.IsListIter it l i->
  (∀H' s',Inv X h1 Z H' s'->XM M G H sF! G H'->MR X.prog X.w X.K sF! G H'->R (.ok pN_) s')->
  codeAny e! A (.builtin "dict.update.loop" ⟨[.ref c,.ref e,rawInt j,bH!],[]⟩) R s:=by
 intro n
 induction n with
 |zero=>
  intro i j s H M hn hi I m sub hM hf st al hR;obtain⟨its,rv,pl,hz⟩:=I.list (hq sub);have Y:=aH rl;have h2:=d4_;refine OI wI ?_;refine GM (c0o hA st al pl.isList cA! λh' eb=>?_);have I':Inv X h1 Z H {s with heap:=h',toks:=s.toks}:=gR (wr:=bi!) I hf λc o hc eo=>eb c o hB! eo;have hx:mup M c cC!=M:=by
   have ei:i=g!:=by omega
   subst ei;rw[List.take_length]at hM;show"#7";split
   .rename_i z;rw[z,hM]
   .rfl
  have:=hR H _ I';rw[hx]at this;exact GM (GP (GP (this (.refl sub) m)))
 |succ n ih=>
  intro i j s H M hn hi I m sub hM hf st al hR;obtain⟨its,rv,pl,hz⟩:=I.list (hq sub);have c6:i<g!:=by omega
  obtain⟨v,gv,ZU⟩:=gJ rl (HU c6);obtain⟨u,wc,ru⟩:=rv.get gv;refine OI wI ?_;refine GM (b6d I st al pl.isList (x:=u) (by simpa using wc) hne λh' ac je hT kp=>?_);have I':Inv X h1 Z H {s with heap:=h',toks:=s.toks+1}:=gR (wr:=bi!) I hf kp;obtain⟨fp,f1,f2,f3,f4⟩:=b6e ac je hf;have I2:=I'.pinned f2 f3;have ZV:({s with heap:=h',toks:=s.toks+1}:yM!).TypeIs ba! "tuple":=⟨_,hT,rfl⟩;refine GM (IR ?_);refine GM (RH ?_);refine GM (QV ZV ?_);refine GM (LJ hT rfl K_);refine IR (a5n hu I2 m sub hM (u:=.int i s.toks) (d:=sI_) ⟨_,Aj.int,I_⟩ (k:=some (.inl (.inl (i:Nat)))) rfl ⟨v,ZU,ru⟩ (by rw[GY,List.length_zipIdx,NQ];exact HY (show min i g!<1001 by omega) b_) λa7 s' I3 c'=>?_);have rj:Kr h1_ l5! i=i+1:=by unfold Kr;rw[nM a5u];simp
  rw[rj]at I3 c';rw[kN a5u,<-b0y c6]at c';have m':=m.write hM c';have x':XM M G H sJ_ G sK!:=XM.write m sub hM;have ZW:∀b∈fp,b≠c:=λb hb z=>m.has (by rw[hM];simp:M c≠none) (z▸(dh_).1);have fk:∀b∈fp,Eu X h1 sK! b:=λb hb=>⟨by rw[aW (ZW b hb)];exact(dh_).1,(dh_).2⟩;have pk:∀b∈fp,∀o,h'.get? b=some o->s'.heap.get? b=some o:=λb hb o eo=>(I3.pin d6_ (GV _ (GV _ (iC hb eo)))).1;have ZX:s'.heap.IsListIter it l S!:=by
   obtain⟨o,q1,q2⟩:=je;exact⟨o,pk it (f1 it d_) o q1,q2⟩
  refine GP ⟨NR wH _,ih S! bl! s' _ _ a! c6 I3.unpinned m' x'.sub mup_same (λb hb=>fk b (f1 b hb)) (f4 _ _ pk fk) ZX λH4 s4 I4 x4 m4=>?_⟩;have gn:mup sJ_ c cC!=mup M c cC!:=by
   show"#7";split<;>rfl
  rw[gn]at x4 m4;exact hR H4 s4 I4 (x'.trans x4 m') m4
end
section
def uC(l:yz!)(items:bi_)(n:Nat)(x:yB!)(e:sM_)(j:Nat)(hj:j<bI!)(al:sN!)(k:Nat)(bo:my_):
  ∀i:Nat,j - i=k->i<=j->(∀m (hm:m<bI!),i<=m->m<j->e items[m]=false)->Meets (Builtin.«list.remove.loop» ⟨[hf_,x,rawInt i],[]⟩)
   sO_:=by
 induction k with
 |zero=>
  intro i hk v4 oq prog w A R s h;obtain⟨hp,g,d,tk,os⟩:=s;obtain⟨hl,he,h⟩:=h;have ZY:i=j:=by omega
  subst ZY
  wp_walk using PK hl
  have hi:items[(h3!).toNat]?=some items[i]:=by simp[hj]
  rw[hi];refine GM (he _ (Array.getElem_mem hj) prog w _ _ ?_);rw[al];have ZZ:(items.eraseIdxIfInBounds i).size<=sizeLine+1:=IL (PySem.MeetsSeq.size_erased items _) (Nat.le_succ_of_le bo)
  wp_walk using(QU hl rfl (hz:=bo) (_hz':=ZZ)),PK hl
  simpa using h
 |succ k ih=>
  intro i hk v4 oq prog w A R s h;obtain⟨hp,g,d,tk,os⟩:=s;obtain⟨hl,he,h⟩:=h;have ai:i<bI!:=by omega
  wp_walk using PK hl
  have hi:items[(h3!).toNat]?=some items[i]:=by simp[ai]
  have hc:dM_=((i+1:Nat):Int):=by omega
  rw[hi];refine GM (he _ (Array.getElem_mem ai) prog w _ _ ?_);rw[oq i ai u! a!]
  wp_walk
  rw[hc];exact⟨NR MH _,OI RC (by
   rw[PD MH _];exact ih S! a! a! (λm hm Y h2=>oq m hm a! h2) prog w A R _ sP_)⟩
def uJ(l:yz!)(items:bi_)(n:Nat)(x:yB!)(e:sM_)(j:Nat)(hj:j<bI!)(al:sN!)(oq:∀m (hm:m<bI!),m<j->e items[m]=false)(bo:my_):
  Meets (Builtin.«list.remove» ⟨[hf_,x],[]⟩)
   sO_:=by
 intro prog w A R s h;show"!u";obtain⟨hl,he,h⟩:=h
 wp_walk using PK hl
 exact⟨NR MH _,OI RC (by
  rw[PD MH _];exact uC l items n x e j hj al _ bo 0 rfl bv! (λm hm _ h2=>oq m hm h2) prog w A R _ sP_)⟩
end
section
variable{X:Cx}{own:List Nat}{e a b o tg:Expr}{pos p2 p bf ak:Pos}{f fa fb fo:WE}
def DX(KF:zr!):V->List V->Hp->VK->Prop:=λx vs H Q=>∃l xs y dx ds j,x=.ref l/\vs=[y]/\H l=some A_/\Aj KF H dx y/\Af KF H ds xs/\Aw dx=true/\Bt ds=true/\Dt ds<=40/\ds.findIdx? (λd=>eqD d dx)=some j/\Q .non (upd H l (.lst (xs.eraseIdx j)))
def a5i{h1:r!}{Z:St}{H:Hp}(I:a_):∀{ds:b!} {vs:o!} {us:j_},Af X.K H ds vs->Aq vs us->Bt ds=true->∀(m:Nat) (h:m<W_) (h':m<e_),Qp X.K H x us[m]=eqD ds[m] x
 |[],vs,us,r,rv,_=>λm h h'=>by cases h'
 |d::ds,vs,us,r,rv,n=>λm h h'=>by
  obtain⟨v,t,rfl,r1,r2⟩:=bE r;unfold Bt at n;rw[HQ]at n;cases rv with
  |cons me oz=>
   cases m with
   |zero=>exact a5h I AD_ n.1
   |succ m=>exact a5i I r2 oz n.2 m _ _
def a9v(hu:ab!):ER X "list.remove" (DX X.K):=by
 intro h1 s Z H x vs v us Q I rx rv h;obtain⟨l,xs,y,dx,ds,j,rfl,rfl,hH,ry,rd,n1,n2,hd,hj,q⟩:=h;cases rx;obtain⟨u,rfl,ru⟩:=rv.one;obtain⟨z,its,n,r,hl,e⟩:=I.lstM hH;have Y:=aH rd;have h2:=av!;obtain⟨Z0,Z1,Z2⟩:=MD.mp hj;refine RB F.slot_list_remove ds! F.entry_list_remove (F.args_list_remove_2 _ _) (uJ l its.toArray n u dJ! j iD! ?_ (λm hm Z3=>?_) iD!) ⟨e,λw hw=>lD I ry ru n1 rd r n2 (by have:=fZ X.A;omega) w in!,?_⟩
 .rw[List.getElem_toArray,a5i I rd r n2 j _ Z0];exact Z1
 .rw[List.getElem_toArray,a5i I rd r n2 m _ a!];simpa using Z2 m Z3
 .refine⟨.non,_,I.lset (its':=its.eraseIdx j) hH e ?_ (r.eraseIdx j) ?_,rfl,q⟩
  .show its.toArray.eraseIdxIfInBounds j=(its.eraseIdx j).toArray;rw[List.eraseIdxIfInBounds_toArray]
  .have:=vX xs j;omega
def Nj(fo fa:WE):WE:=λρ M R=>fo ρ M λd M1=>Du oZ_ λ_=>fa ρ M1 λv M2=>Du o0! λq=>Aw v=true/\Bt q.2=true/\Dt q.2<=40/\Du (q.2.findIdx? λx=>eqD x v) λj=>R .non (mup M2 q.1 (.lst (q.2.eraseIdx j)))
def a3s{KF:zr!}{G:Hp}(j:Nat):∀{ds:b!} {vs:o!},Af KF G ds vs->Af KF G (ds.eraseIdx j) (vs.eraseIdx j):=by
 induction j with
 |zero=>
  intro ds vs r;cases ds with
  |nil=>cases bY r;exact r
  |cons d ds=>obtain⟨v,t,rfl,r1,r2⟩:=bE r;exact r2
 |succ j ih=>
  intro ds vs r;cases ds with
  |nil=>cases bY r;exact r
  |cons d ds=>obtain⟨v,t,rfl,r1,r2⟩:=bE r;exact Af.cons r1 (ih r2)
def a7c(hu:ab!)(ho:cq!)(ha:ag!)(hst:jg!:=by rfl)(iy:((og_).all cH!&&(cH_).all cI!
   &&decide oh!)=true:=by rfl) (iz:es!:=by rfl)
  (iu:attributeBase o "remove" X.env cz_=eval o X.env:=by rfl) (ja:gu!:=by rfl):ME X own (.Call (.Attribute o "remove" bf) [a] [] ak) (Nj fo fa):=
 eR (a0z NY PySem.F.slot_list_remove PySem.F.type_list_remove (a9v hu) ho.ok AN_ iu iy iz hst ja) λZ G H Q ρ M R st e k=>
  ⟨G,ρ,M,_,st,e,λd M1 v G1 H1 r1 x1 m1 q1=>by
   obtain⟨c1,e1,r1⟩:=cC r1;obtain⟨rfl,rfl,_,ui,hH,_⟩:=kT m1 q1 e1;refine AO_;obtain⟨⟨p2,UM⟩,e2,n1,n2,hd,r2⟩:=cC r2;obtain⟨j,e3,r3⟩:=cC r2;obtain⟨z1,z2,z3,vs,Y,h2⟩:=kT m2 a4_ e2;cases z2;refine⟨_,vs,u,z,UM,j,rfl,rfl,Y,q2.mono x2.sub,h2.mono x2.sub,n1,n2,hd,e3,?_⟩;exact k _ _ _ _ _ r3 AP! (m2.write z3 ⟨_,bK,a3s j h2⟩) Aj.non⟩
end
end DL
namespace DL
open PySem PySem.Spec PyProof.Rows L2
def c1q:bootBuiltins "dict"=some sS!:=by decide+kernel
section
def a3b(hc:aq_)(hu:ab!)(I:a_)(m:bh_)(sub:B!)(q:Ef X.K G l vs)(rl:sE_)(hl:g!<=1000)(he:IsEnum s.heap e it 0 .none)(al:s.heap.IsListIter it l 0)(hf:sA!)(hne:g1_)
  (k:∀p H' s',M p=none->Inv X h1 Z H' s'->XM M G H sS_ G H'->MR X.prog X.w X.K sS_ G H'->Q b7_ s'):wpAny e! X.A (call sS! [.ref e]) Q E s:=by
 have du:H g_=none:=I.fresh;refine callType_codes (Q₁:=λobj am=>obj=.ref g_/\am={s with heap:=s.heap.push {cls:=.type "dict",data:=.dict #[]}}) F.kt_called_dict (F.kt_typeCall_dict_1 _) F.entry_dict_init (kt_code_dict_new _ aI_) ?_;rintro obj am ⟨rfl,rfl⟩;have D0:Lz kd! s.heap.objs.size [] 0:=o2_;have I1:Inv X h1 Z c4! {s with heap:=s.heap.push {cls:=.type "dict",data:=.dict #[]}}:=by
  refine o3_;show"!U"
 have x0:XM M G H gW! G c4!:=.laid sub du;have m0:MR X.prog X.w X.K gW! G c4!:=m.laid du sub o4!;have vm:({s with heap:=s.heap.push {cls:=.type "dict",data:=.dict #[]}}:yM!).TypeIs ba! "dict":=jz!;have zp:IsEnum kd! e it 0 .none:=GQ _ he;refine⟨vm,F.args_dict_init_2 _ _,?_⟩;refine GM ?_;refine GM (NN vm ?_);refine GP ?_;show wpAny _ _ (Builtin.Dict.updateFrom "dict.__init__" s.heap.objs.size V! [] .none) _ _ _;refine GM (QV (T:="enumerate") ⟨_,zp,rfl⟩ ?_);refine GM (a5j zp a9_ λh' tk kp=>?_);refine GM eV_;have I2:Inv X h1 Z c4! {s with heap:=h',toks:=tk}:=I1.kept (t':=tk) kp;have g9:IsEnum h' e it d5_ .none:=kp _ _ zp;refine GM (wpAny_pyIter_enum g9 (GP ⟨NR wH _,?_⟩));have fk:∀b∈bi!,Eu X h1 c4! b:=λb hb=>by
  refine⟨?_,(fD_).2⟩;have:b≠g_:=λz=>by
   subst z;simp only[GT,JM,NX]at hb;obtain z|z:=hb
   .exact KY _ (z▸HP he)
   .obtain⟨o,q1,_⟩:=al;exact KY _ (z▸HP q1)
  rw[aW this];exact(fD_).1
 have Z4:h'.IsListIter it l 0:=by
  obtain⟨o,q1,q2⟩:=al;exact⟨o,kp _ _ (GQ _ q1),q2⟩
 refine b6h (A:=X.A.in1) (c:=g_) hc a9_ (by have:=fZ X.A;have:=fZ X.A.in1;omega) hne (λsb=>sb.seq q) rl hl xs.length 0 0 _ _ _ a! bv! I2 m0 x0.sub mup_same fk (.inl ⟨_,g9⟩) Z4 λH4 s4 I4 x4 m4=>?_;have gn:mup gW! s.heap.objs.size cC!=mup M s.heap.objs.size cC!:=by
  show"#7";split<;>rfl
 rw[gn]at x4 m4;exact⟨rfl,k _ H4 s4 (m.nocell du) I4 (x0.trans x4 m0) m4⟩
variable{pos u5 p p2:Pos}
def Tc(f:WE):WE:=λρ M R=>f ρ M λd M1=>match d with
 |.lst xs=>g!<=1000/\∀p,M1 p=none->R z_ sX!
 |_=>False
def a9z(hu:ab!)(hg:Gl X "dict")(hm:X.mg "dict"=none)(lq:us_)(lu:BM!)(hc:aq_)(h:ag!)(hs:BM_:=by rfl)(ar:(backTo u5 n1!).any c_=false:=by rfl)
  (bj:starEach sY_ X.env=(false,eval (.Call sY! [a] [] u5) X.env)::starEach [] X.env:=by rfl)(Z5:BN!:=by rfl):
  ME X own (.Call (.Name "dict" p) sY_ [] pos) (Tc fa):=⟨by
 rintro h1 s Z H Q I ⟨G,ρ,M,R,st,e,k⟩;refine Call_ (iD I hg hm c1q (JP ?_ bj Z5));refine KQ ?_;refine Call_ (iD I lq lu boot_enumerate (JP (cW (cO h.ok fI hs u5 h1 s Z H (λvs H1=>∃v xs M1 G1,vs=[v]/\(g!<=1000/\∀p,M1 p=none->R z_ sX!)/\XM M G H M1 G1 H1/\MR X.prog X.w X.K M1 G1 H1/\Aj X.K G1 A_ v) I ⟨G,ρ,M,_,st,e,Bs_⟩) λus s1 ⟨vs,H1,I1,r1,v,xs,M1,G1,q1,t1,x1,m1,rr⟩=>?_) hs ar))
 .cases d<;>first|exact r1.elim|skip
  exact⟨v,_,M1,G1,rfl,r1,x1,m1,q1⟩
 subst q1;obtain⟨l,ys,rfl,q,rl⟩:=bJ rr;obtain⟨u,rfl,ru⟩:=mH r1;cases ru;obtain⟨its,rv,pl,hz⟩:=I1.list (x1.sub.seq q);refine call_enumerate_list pl.isList λh' he al hsz hk=>?_;have jr:∀b∈[x_+1,x_],x_<=b:=λb hb=>by
  simp only[GT,JM,NX]at hb;obtain rfl|rfl:=hb<;>omega
 refine MV ?_;exact a3b hc hu (I1.kept (t':=s1.toks) hk) m1 x1.sub q rl t1.1 he al (λb hb=>I1.fpOk pl! BP!) BO! λp H' s' hp I2 x2 m2=>⟨.ref p,H',I2,rfl,k _ _ _ G1 H' (t1.2 p hp) bh! m2 Aj.fn⟩⟩
end
end DL
namespace DL
open PySem PySem.Spec PyProof.Rows L2
def FG:List D->Option D
 |[.int i,.int j]=>some (.int (if j>i then j else i))
 |_=>none
section
variable{pos p2:Pos}
def Ta(fs:WA)(fb:WE):WE:=λρ M R=>fs ρ M λds M1=>e_<=1000/\fb ρ M1 λy M2=>match y with
 |.int k=>BQ_/\R BR! M2
 |_=>False
def b9h(ha:e2_)(hb:by!):ME X own BS! (Ta fs fb):=
 eR BS_ λZ G H Q ρ M R st e k=>⟨G,ρ,M,_,st,e,λds M1 vs G1 H1 r1 x1 m1 q1=>⟨by rw[<-aH q1];exact fB r1.1,λp hp=>by
  have xj:Br G1 H1 G1 BT!:=a2m x1.sub hp;have hM:M1 p=none:=m1.nocell hp;refine BT_;cases y<;>first|exact r2.elim|skip
  rename_i n;cases aX q2;obtain⟨⟨hn,jj,hl⟩,r2⟩:=r2;have rq:H2 p=some ch_:=x2.keep p _ bK hM;refine BU!;have x12:=(BU_).trans x2 pn_;have xl:Br G2 H2 (upd G2 c sZ!) (upd H2 c sZ!):=Br.laid x2.sub hc;exact k _ _ _ _ _ r2 (x12.trans (.ext xl) m2) (m2.ext xl) (cQ (x2.sub.free hc) (sA a4_ _))⟩⟩
end
end DL
namespace K12
open PySem L2 DL
nonrec def top(i:Nat):Stmt:=PySem.Challenge.pw_manyhands_k12_taking.main.body.getD i s1!
def Kj(i j:Nat):Stmt:=match top i with
 |.ClassDef _ _ _ b _ _ _ _ _ _ _=>b.getD j s1!
 |s=>s
structure Bl where
 mk::
 A0:Addr
 A7:Addr
 A8:Addr
 A9:Addr
 B0:Addr
 B1:Addr
 B2:Addr
 B3:Addr
 B4:Addr
 B5:Addr
 B6:Addr
 B7:Addr
 HandsError:Addr
 NoDeed:Addr
 NoTime:Addr
 NotThere:Addr
 Unlike:Addr
abbrev Qu:Stmt:=top 12
abbrev Qw:Stmt:=top 13
abbrev Nm:Stmt:=top 14
abbrev Sh:Stmt:=top 15
abbrev Mx:Stmt:=top 16
abbrev Si:Stmt:=top 17
abbrev Oz:Stmt:=top 18
abbrev Pq:Stmt:=top 19
abbrev Sf:Stmt:=top 20
abbrev Nl:Stmt:=top 21
abbrev Qv:Stmt:=top 22
abbrev Lg:Stmt:=top 24
abbrev Sj:Stmt:=top 25
abbrev My:Stmt:=top 26
abbrev Mb:Stmt:=top 27
abbrev Qx:Stmt:=top 28
abbrev Tx:Stmt:=Kj 30 0
abbrev Pt:Stmt:=Kj 30 1
abbrev Lh:Stmt:=Kj 30 2
abbrev Mz:Stmt:=Kj 30 3
abbrev Pa:Stmt:=Kj 31 0
abbrev Nq:Stmt:=Kj 31 1
abbrev Kg:Stmt:=Kj 31 2
abbrev Jg:Stmt:=Kj 31 3
abbrev Np:Stmt:=Kj 31 4
abbrev Kh:Stmt:=Kj 31 5
abbrev Na:Stmt:=Kj 31 6
abbrev Md:Stmt:=Kj 31 7
abbrev Nr:Stmt:=Kj 31 8
abbrev Iz:Stmt:=Kj 31 9
abbrev Kv:Stmt:=top 33
abbrev Oy:Stmt:=top 34
abbrev Tu:Stmt:=top 35
abbrev Ws:Stmt:=top 36
abbrev Tv:Stmt:=top 37
abbrev Sk:Stmt:=Kj 40 0
abbrev Pw:Stmt:=Kj 40 1
abbrev Pr:Stmt:=top 41
abbrev Ox:Stmt:=top 42
abbrev Po:Stmt:=top 43
abbrev Sg:Stmt:=top 44
abbrev Pp:Stmt:=top 45
abbrev Mc:Stmt:=top 46
abbrev No:Stmt:=top 47
abbrev Hu:Stmt:=top 48
abbrev Tw:Stmt:=top 49
abbrev Fa:Stmt:=top 50
abbrev Se:Stmt:=top 51
abbrev Wr:Stmt:=top 52
abbrev Te:Stmt:=top 53
abbrev Mw:Stmt:=top 55
abbrev Lf:Stmt:=top 57
abbrev Wu:Stmt:=top 58
abbrev Yn:Stmt:=top 59
abbrev Va:Stmt:=top 61
abbrev Ww:Stmt:=top 62
abbrev Ua:Stmt:=top 63
abbrev Ph:Stmt:=top 65
abbrev Ub:Stmt:=top 66
abbrev Qy:Stmt:=top 67
abbrev Uz:Stmt:=top 68
abbrev Ra:Stmt:=top 69
abbrev Tz:Stmt:=top 70
abbrev Wv:Stmt:=top 71
abbrev Nt:Stmt:=top 73
abbrev Qz:Stmt:=top 74
abbrev Pv:Stmt:=top 72
abbrev Jf:Stmt:=top 75
def eO:Ep s2! [aW!] (Ae Jf):=h_
def Nu:Ab->Option Fl:= (As (Bi s4_ (Bi s3_ (f2 ltD (f1 Ey bm_) (f2 Fb s5! s5_)))))
def Dx:List D->Option D:=Bk z! 1 (Nu)
def Nx:Ab->Option Fl:= (As (Bi (f1 Dx bm_) (Bn Ih ltD F_ k! C!)))
def Es:List D->Option D:=Bk mc! 2 (Nx)
def Ho:Ab->Option Fl:= (As (Bi (f1 Dx bm_) (f2 Kc k! s_)))
def Ca:List D->Option D:=Bk z! 1 (Ho)
def Jz:Ab->Option Fl:= (sSeq (Dr (He h9_ (fT (f2 Jc dl_ ai_))) cE! Bj) (As (Bi (f1 Es (aCons aX! ta_)) (f1 Ca tb!))))
def Ch:List D->Option D:=Bk z! 1 (Jz)
def Jj:Ab->Option Fl:= (sSeq (Dr (He h9_ (fT (f2 Jc dl_ ac_))) cE! Bj) (As (Bi tc! (f1 Es (aCons ib! ta_)))))
def Cy:List D->Option D:=Bk z! 1 (Jj)
def Ka:Ab->Option Fl:= (As (Ds (f1 Ch bm_) (Ds (f2 eqD' k! (fC dm_)) (f2 eqD' k! (fC ic!)))))
def Fo:List D->Option D:=Bk z! 1 (Ka)
def Ij:Ab->Option Fl:= (As (Ds td_ (f1 Ch bm_)))
def Ee:List D->Option D:=Bk z! 1 (Ij)
def Jk:Ab->Option Fl:= (As (Ds td_ (f1 Cy bm_)))
def Ew:List D->Option D:=Bk z! 1 (Jk)
def Pk:Ab->Option Fl:= (As (Bi (Bn Ih Ih (fC (.str " ")) k! (fC (.str "~"))) (f2 Jc (f1 Xf bm_) (fC (.int 37)))))
def Fm:List D->Option D:=Bk fO! 1 (Pk)
def Pj:Ab->Option Fl:= (sSeq (Dr (He (By (fT (Cu "str" k!))) (By (fT (Bn Ih Ih s_ dl_ dm!)))) cE! Bj) (As (f1 Lr (aCons (Ff 1 [] (Za k!) G! ay_ ie!) aNil))))
def Hz:List D->Option D:=Bk z! 1 (Pj)
def Nv:Ab->Option Fl:= (As (f1 Es (aCons k! (aCons ee_ aNil))))
def Gy:List D->Option D:=Bk z! 1 (Nv)
def Gn(t:Bl):List bS!:=[("put",.tup [dn_,.fn t.A7]),("move",.tup [dn_,dn_,.fn t.A7]),("drop",.tup [dn_]),("write",.tup [dn_,.fn t.A8,.fn t.A9]),("cut",.tup tj!),("set",.tup [dn_,.fn t.B2,.fn t.B3]),("undo",.tup [.fn t.B4]),("redo",.tup [.fn t.B4])]
def Jd(t:Bl):Addr->Option yh_:=λa=>if a=t.A0 then some Fo else if a=t.A7 then some Ee else if a=t.A8 then some Ew else if a=t.A9 then some Hz else if a=t.B0 then some Cy else if a=t.B1 then some Ca else if a=t.B2 then some Gy else if a=t.B3 then some Dx else if a=t.B4 then some Ch else none
def Mq(t:Bl):Ab->Option Fl:= (sSeq (Dr (fT (f2 Jc dl_ (f1 Bp eg!))) cE! Bj) (As (f1 Lr (aCons (Ff 2 [] (Yz C! k!) ig! ay_ ig_) aNil))))
def Fz(t:Bl):List D->Option D:=Bk mh_ 2 (Mq t)
def Me(t:Bl):Ab->Option Fl:= (sSeq (Dr (He h9_ (fT (f2 eqD' dl_ F_))) cE! Bj) (sSeq (Dr (He (By (fT (Cu "str" aX!))) (fT (Xh fQ! true aX!))) cE! Bj) (sSeq (Dr (By (fT (f1 (Fz t) (aCons (Dj k! (Ak s_) Al) (aCons (Tn fQ! aX!) aNil))))) cE! Bj) (As (Ds (f2 Jc aX! mj!) (f2 Ih (f2 Ag (f2 ixD ib! ai_) mj_) dm!))))))
def Go(t:Bl):List D->Option D:=Bk z! 1 (Me t)
def Gq(t:Bl):Ab->Option Fl:= (sSeq (Dr (He h9_ (fT (f2 Jc dl_ ee_))) cE! Bj) (As (Bi tc! (Bi (f1 Ca (aCons ib! aNil)) (f1 (Go t) (aCons mj_ aNil))))))
def Bh(t:Bl):List D->Option D:=Bk z! 1 (Gq t)
def Ip:Ab->Option Fl:= (As (Au (aCons ib! (aCons aX! aNil))))
def Ce:List D->Option D:=Bk cA_ 1 (Ip)
def Ny:Ab->Option Fl:= (As (Ss Ce k!))
def Ck:List D->Option D:=Bk b8! 1 (Ny)
def Vk(t:Bl):WS:= (Ad (Ez t.B7 "following" i! tt!) (Ez t.B7 "preceding" i! tt!))
def Fd(t:Bl):WF:=Cj [Y_] 1 (Vk t)
def Jl(t:Bl):WS:= (Bg (Km ml_ (w2 fT_ o_ b8_)))
def Dz(t:Bl):WF:=Cj bo! 2 (Jl t)
def Mg(t:Bl):WS:= (Ad ty_ (Ad (Ai 4 (w2 Do b8_ bo_)) (Ad (Cg b8_ bo_ o_) (Ad (Cg ej_ o_ bo_) (Ad (Cg b8_ o_ O_) (Cg ej_ O_ o_))))))
def Bw(t:Bl):WF:=Cj [Y_,av_,do_,"ahead","follower"] 3 (Mg t)
def Nz(t:Bl):WS:= (Ad tC! (Ad (Ai 3 (Qq b8_ o_)) (Ad (Cg b8_ M! bo_) (Cg ej_ bo_ M!))))
def Ha(t:Bl):WF:=Cj [Y_,av_,"ahead","follower"] 2 (Nz t)
def Qd(t:Bl):WS:= (Ad (Ez t.B6 "parents" i! (Qr (Hl mm_ bG! (Hl ik_ bG! Pf)))) (Ad (Ez t.B6 "rows" i! (Qr (Hl mm_ fV! (Hl ik_ fV! Pf)))) (Ad (Ez t.B6 "texts" i! Hh) (Ad (Ez t.B6 "numbers" i! Hh) (Ad (Ez t.B6 "written" i! Hh) (Ez t.B6 "hidden" i! Hh))))))
def Gj(t:Bl):WF:=Cj [Y_] 1 (Qd t)
def Ko(t:Bl):WS:= (Bg (w2 fT_ o_ dp!))
def Cb(t:Bl):WF:=Cj bo! 2 (Ko t)
def Gr(t:Bl):WS:= (Bg (w2 fT_ o_ fV_))
def Bx(t:Bl):WF:=Cj bo! 2 (Gr t)
def Ki(t:Bl):WS:= (Ad (Sc fW! fW_) (Bg ml_))
def Ej(t:Bl):WF:=Cj mq! 3 (Ki t)
def Pb(t:Bl):WS:= (Ad (Ai 4 (Zu (wT tG!) M! ik_)) (Ad tn! (Ad tI_ (Ad tJ! (Ad tJ_ tK_)))))
def Hr(t:Bl):WF:=Cj [Y_,b9!,mt!,mt_,"place"] 4 (Pb t)
def Gs(t:Bl):WS:= (Bg (Km mu_ (Km tG! (Ux (Az t.B6 "is_within" 3 (Ej t) i! (Aa M! bG_))))))
def Di(t:Bl):WF:=Cj mv! 3 (Gs t)
def Oa(t:Bl):WS:= (Ad tO! (Ad (Bb (Az t.B7 "take_out" 2 (Ha t) (w2 Do dp! mp!) bG_)) (Ad (Bb (Az t.B7 "put_behind" 3 (Bw t) (w2 Do dp! M!) tq_)) (Cg mo_ o_ M!))))
def Fe(t:Bl):WF:=Cj fX! 4 (Oa t)
def Iq(t:Bl):WS:= (Ad (At (Mt (wT (Az t.B6 "has_item" 2 (Bx t) i! ej!))) Mp Bm) (Ad (Ai 5 bo_) (Bs (Hc (Qi az_)) (Tr 6 7) (Ad mw_ (Ad tR! (Ad tS! (Ai 5 em!)))))))
def Ge(t:Bl):WF:=Cj [Y_,tT!,b9!,"behind","text","ahead","k","sign",av_] 5 (Iq t)
def Kq(t:Bl):WS:= (Ad (At (Mt (wT mu_)) Mp Bm) (Bs (Hc (Qh fX_ tU!)) ad! (Ad tV_ tX!)))
def Hs(t:Bl):WF:=Cj [Y_,b9!,"first","many","k",av_] 4 (Kq t)
def Jm(t:Bl):WS:= (At (wT mu_) (Cg (w2 Do mr! o_) M! bo_) Bm)
def Ea(t:Bl):WF:=Cj mz! 4 (Jm t)
def Lj:Ab->Option Fl:= (As (Ds (f2 eqD' ip_ (fC em_)) (f2 eqD' ip_ (fC tY_))))
def Ao:List D->Option D:=Bk cA_ 1 (Lj)
def Qc:WS:= (Ad (Ai 1 Hh) (Ad (Bs tZ_ en_ t1_) (Bg o_)))
def Fc:WF:=Cj [fS!,"words",bF_] 1 (Qc)
def Vg:WS:= (Ad (Ai 1 (Ap 1 Fc bI_)) (Ad mB! (Ad (Bs (Hc iq!) am_ ir!) bJ!)))
def Js:WF:=Cj [fS!,"words","names",bF_,av_] 1 (Vg)
def Yt(t:Bl):WS:= (At (Dg (fT (f2 eqD' bJ_ ir_))) (Bb (Az t.B6 "put" 4 (Hr t) i! (Aa o_ (Aa mD_ (Aa (wl fX_) Ac))))) (At (Dg (fT (f2 eqD' bJ_ (fC is!)))) (Bb (Az t.B6 "move" 4 (Fe t) i! is_)) (At (Dg (fT (f2 eqD' bJ_ (fC it!)))) (Bb (Az t.B6 "move" 4 (Fe t) i! (Aa mD_ (Aa ik_ (Aa bG! Ac))))) (At (Dg (fT (f2 eqD' bJ_ mF_))) (Bb (Az t.B6 "write" 5 (Ge t) i! (Aa o_ is_))) (At (Dg (fT (f2 eqD' bJ_ mj!))) (Bb (Az t.B6 "cut" 4 (Hs t) i! is_)) (At (Dg (fT (f2 eqD' bJ_ (fC iu_)))) (Bb (Az t.B6 "set_number" 4 (Ea t) i! is_)) Bm))))))
def La(t:Bl):WF:=Cj mH! 3 (Yt t)
def Vh(t:Bl):WS:= (Ad ud_ (Ad (Ai 2 (Ap 1 Js bI_)) (Ad (Bs tZ_ am_ (Ad fY_ uf!)) (Bg o_))))
def Hy(t:Bl):WF:=Cj [fS!,mG_,"left_out",bF_,av_] 1 (Vh t)
def Uf(t:Bl):WS:= (Ad (Ez t.B5 "ours" i! o_) (Ad (Ez t.B5 "taken" i! Hh) (Ad (Ez t.B5 "waiting" i! cF_) uh_)))
def Kf(t:Bl):WF:=Cj mI! 2 (Uf t)
def Rk(t:Bl):WS:= (Bg (w1 Gi (Aa (Hm ep_ o_ (wl (Eb aNil))) Ac)))
def Cq(t:Bl):WF:=Cj mJ! 2 (Rk t)
def Rh(t:Bl):WS:= (Ad (EV (Nb 1 aNil)) (Ad (Bs mK! en_ (Wl 1 mJ_)) uj!))
def Dy(t:Bl):WF:=Cj [M_,fS!,do_] 1 (Rh t)
def Qb(t:Bl):WS:= (Ad ul! (Bg mK_))
def Il(t:Bl):WF:=Cj bd! 1 (Qb t)
def Re(t:Bl):WS:= (Bg (w2 (λ_=>Ih) um! um_))
def Ev(t:Bl):WF:=Cj bq! 2 (Re t)
def Ud(t:Bl):WS:= (Bg (w2 eo! um! (w2 Gk um_ cG_)))
def Fn(t:Bl):WF:=Cj bq! 2 (Ud t)
def Rg(t:Bl):WS:= (Ad uo! uq!)
def Dw(t:Bl):WF:=Cj mM_ 2 (Rg t)
def Hw(t:Bl)(E:EK):WS:= (Ad mB! (Ad (Bs (Ci (w2 Gk dq_ o_)) am_ (Ad fY_ (Ad ut_ uv_))) bJ!))
def Fk(t:Bl):Us:=λds M R E=>Cj [M_,mQ!,iC!,bF_,av_,"same"] 2 (Hw t E) ds M R
def Ji(t:Bl)(E:EK):WS:= (Ad mB! (Bs (Ci (w1 Px bG_)) am_ (Ad uw_ (Ad uy! uz!))))
def Gx(t:Bl):Us:=λds M R E=>Cj [M_,iC!,"times",av_,"time"] 2 (Ji t E) ds M R
def Hx(t:Bl)(E:EK):WS:= (Ad (At (Dg (By uC!)) (Fi t.NoDeed E (wl (fC (.str "a thing in the message is no operation")))) Bm) (Bb (Fj 2 (Gx t) E (Aa i! (Aa (Fj 2 (Fk t) E cI_) Ac)))))
def Cw(t:Bl):Us:=λds M R E=>Cj dr_ 2 (Hx t E) ds M R
def Vj(t:Bl):WS:= (Ad (Bb (Hi (Fv ep_ (wl ix!) cF_) o_)) uh_)
def Gz(t:Bl):WF:=Cj bq! 2 (Vj t)
def Mf(t:Bl):WS:= (Ad (Ai 1 bp!) (Ad uG! (Ad (Sc (Dg (fT uG_)) (Ad uI! (Ad uJ_ (Ad (Lc 1 cG_) uG!)))) (Bg o_))))
def Cz(t:Bl):WF:=Cj [M_,"many","found"] 1 (Mf t)
def Pi(t:Bl):WS:= (Ad uM! (Ad (Ai 2 uM_) (Ad uP! mM!)))
def Kd(t:Bl):WF:=Cj [M_,bF_,"known"] 2 (Pi t)
def Tg(t:Bl)(E:EK):WS:= (Ad uQ! (Ad iD_ (Ad (Bs (Hc iC_) am_ (Lc 2 uQ_)) bJ!)))
def Kb(t:Bl):Us:=λds M R E=>Cj [M_,mQ!,"many",bF_] 2 (Tg t E) ds M R
def Yv(t:Bl):WS:= (Ad (Ai 2 (Tc o_)) (Bg (Cd 1 [2] (Ci mL!) G! (wT (w2 (λ_=>Hq) (wl ia_) (Hm o_ (wl aX!) bp!))) i!)))
def Ql(t:Bl):WF:=Cj [M_,"have",mW!] 2 (Yv t)
def Io(t:Bl)(E:EK):WS:= (Ad (Ai 2 (Ap 1 (Il t) bI_)) (Ad (At uS_ (Fi t.NotThere E (Nk (gN 1 g0))) Bm) bJ!))
def Ir(t:Bl):Us:=λds M R E=>Cj [M_,av_,mG_] 2 (Io t E) ds M R
def Rf(t:Bl):WS:= (Bg (w2 Gk cG_ (w1 (λ_=>Vp (some 0)) (Aa uT! Ac))))
def Hj(t:Bl):WF:=Cj bd! 1 (Rf t)
def Yu(t:Bl):WS:= (Ad (Ai 2 (Uv (Aa mO! (Aa (w2 Gk (Az t.B5 "have" 2 eq! i! (Aa mO! Ac)) cG_) Ac)))) (Ad (Bb (Ap 2 (Gz t) (Aa i! (Aa uU_ Ac)))) bJ!))
def Qk(t:Bl):WF:=Cj [M_,"deed",av_] 2 (Yu t)
def Vf(t:Bl)(E:EK):WS:= (Ad (Bb (Fj 2 (Ir t) E cI_)) (Bg uX_))
def Vs(t:Bl):Us:=λds M R E=>Cj iF_ 3 (Vf t E) ds M R
def Tl(t:Bl):WF:=λds M R=>Vs t ds M R λ_ _=>False
def Qe:Ab->Option Fl:= (sSeq (Dr (λρ=>((k!) ρ).bind Pn) uY_ Bj) (As F_))
def Lp:List D->Option D:=Bk f6! 2 (Qe)
def Vm:Ab->Option Fl:= (sSeq (Bf 2 (f2 modD (f2 Ag (f1 Lp uZ!) (f2 Cm (fC (.int 104729)) iG_)) (fC (.int 4294967291)))) (sSeq (Bf 2 (f2 modD (f2 Cm K! (fC (.int 48271))) (fC (.int 4294967279)))) (As (f2 modD (f2 Ag (f2 Cm (f2 Av K! (fC (.int 64))) (fC (.int 69621))) K!) (fC (.int 4294967231))))))
nonrec def g_Lmix:List D->Option D:=Bk [aW!,aW_,bM_] 2 (Vm)
def Vl:Ab->Option Fl:= (As (Bi s4_ s3_))
def Ia:List D->Option D:=Bk [dl!] 1 (Vl)
def Rj:Ab->Option Fl:= (As (f2 Ag (f2 Ag (fC (.lst [dm_])) (Ff 1 [] iq! G! (fT m3_) m4_)) (fC (.lst [ic!,(.tup [ex_,ex_])]))))
def Ib:List D->Option D:=Bk ey_ 1 (Rj)
def Ri:Ab->Option Fl:= (sSeq (Nb 1 (aCons cj! (aCons (fC (.tup [ex_,ex_,b7!])) aNil))) (sSeq (Li iq! en_ (Dr u3_ u4_ Bj)) (As C!)))
def Ju:List D->Option D:=Bk [b6_,dl!,bN!,aW_] 1 (Ri)
def Th:Ab->Option Fl:= (sSeq (Bf 2 (fC (.str " abcXYZ.,;!019~[]\\\"'|{}<>@#$&*()-+/=_^:?`"))) (As (Vt (fC (.str "")) (Ff 1 [0,2] (iRng m6!) G! ay_ u6!))))
def Ln:List D->Option D:=Bk [bM_,f7!,m6_] 2 (Th)
def Ti:Ab->Option Fl:= uY_
def Cp:List D->Option D:=Bk m7! 2 (Ti)
def Nh:Ab->Option Fl:= (sSeq (Bf 4 m7_) (sSeq u7! (sSeq u9_ (sSeq vc! (sSeq vc_ (sSeq vd! (sSeq vd_ (sSeq vf_ (sSeq vh! (sSeq vi_ (sSeq vj_ (sSeq vk_ (sSeq vm_ (sSeq vr_ (sSeq vs_ vu!)))))))))))))))
def Im:List D->Option D:=Bk [aW!,eC!,b6_,f7!,bM_,"_law_items_here","_law_item",fK_,"_law_kinds","_law_kind","_law_sign","_law_names"] 4 (Nh)
def Ob:Ab->Option Fl:= (sSeq iP! (sSeq (Nb 4 iP_) (sSeq (Nb 5 iP_) (sSeq (Li nh! (Bd 6) (sSeq vw_ (sSeq vx! (sSeq vx_ (sSeq vy_ (sSeq vA! vB!)))))) iR_))))
def Jt:List D->Option D:=Bk [aW!,eC!,iS_,b6_,"_law_counts","_law_times",aW_,bM_,"_law_at","_law_deed_here"] 3 (Ob)
def Yw(t:Bl):WS:= (Ad iD_ (Ad (Zt 4 2 (Wf gb_) λE=>(Ai 2 (Fj 2 (Kb t) E cI_))) bJ!))
def Om(t:Bl):WF:=Cj [h9!,ed_,dl!,"e"] 2 (Yw t)
def Ue:WS:= (Ad iD_ (Ad (Bs vC_ am_ (Bs vD! ad! (At nl_ (Ad vE_ (Ad nm! nm_)) Bm))) bJ!))
def Ke:WF:=Cj [cD!,ed!,iS_,aW_,bN!] 2 (Ue)
def Kw:Ab->Option Fl:= (sSeq iP! (sSeq (Li nn! ad! (sSeq vG_ (sSeq vH_ (sSeq vJ! (sSeq vK_ (sSeq vM_ (sSeq vQ! (sSeq vS_ (Nc 3 aj!))))))))) iR_))
def Fp:List D->Option D:=Bk [aW!,eC!,b6_,dl!,aW_,bM_,bN!,"_law_way"] 3 (Kw)
def Yx:WS:= (Ad (Bs eD_ ad! vU!) (Ad (Ai 5 Hh) (Ad (Bs vV! ad! iU!) (Ad (Ai 6 iU_) (Ad (Ai 7 nq!) (Ad (Bs eD_ ad! (Ad (Ai 6 nq_) iU!)) (Ad nr! (Ad (Bs gd_ (Bd 8) (Bs gd_ ge! v4!)) (Ad (Ai 9 bp!) (Ad (Bs eD_ ad! (Ad v5_ (At CK! (Ad v8_ (Ad nr_ wa!)) wc_))) (Bg iV!)))))))))))
def Ml:WF:=Cj [ec_,cD!,ed!,ed_,bN!,"_law_known","_law_wrong","_law_had","_law_name",iS_,fK_,"_law_have"] 4 (Yx)
def Vi(t:Bl):WS:= (Ad wg! (Ad wi! (Ad wj! (Ad (At (Dg iX_) (Ai 2 (Cd 1 [2] wj_ G! iE! wk_)) Bm) (Ad wl_ (Ad (Ai 5 cF_) (Ad (At wm_ (Ad wn! (Ad wo_ wp_)) Bm) (Ad (Ai 6 cF_) (Ad (Bs wq_ (Bd 7) (Ad wr_ (Ad ww! (Ad ww_ (Ad wx! (Ad ny_ (Bs wz_ (Bd 12) wB_))))))) (Ad wD! wF!))))))))))
def Yc(t:Bl):WF:=Cj s2! 1 (Vi t)
structure Txt(P:yL!)(w:yK!)(K:zr!)(mg:L!)(t:Bl):Prop where
 D3:Fh K mg "is_whole" Qu z!
 D4:Fh K mg "is_below" Qw mc!
 D5:Fh K mg "is_from_one" Nm z!
 D6:Fh K mg "is_name" Sh z!
 D7:Fh K mg "is_sign_name" Mx z!
 D8:Fh K mg "is_item" Si z!
 D9:Fh K mg "is_sibling" Oz z!
 E1:Fh K mg "is_behind" Pq z!
 E2:Fh K mg "is_sign" Sf fO!
 E3:Fh K mg "is_text" Nl z!
 E4:Fh K mg "is_place" Qv z!
 E5:Fh K mg "are_parts" Lg mh_
 E6:Fh K mg "is_deed" Sj z!
 E7:Fh K mg "is_operation" My z!
 E8:Fh K mg "time_and_hand" Mb cA_
 E9:Fh K mg "in_order" Qx b8!
 F6:Rx K mg "Row" t.B7 "Row.__init__" Tx [Y_]
 F7:Dk K t.B7 "holds" "Row.holds" Pt bo!
 F8:Dk K t.B7 "put_behind" "Row.put_behind" Lh wF_
 F9:Dk K t.B7 "take_out" "Row.take_out" Mz bo!
 G6:Rx K mg "Outline" t.B6 "Outline.__init__" Pa [Y_]
 G7:Dk K t.B6 "has" "Outline.has" Nq bo!
 G8:Dk K t.B6 "has_item" "Outline.has_item" Kg bo!
 G9:Dk K t.B6 "is_within" "Outline.is_within" Jg mq!
 H9:Dk K t.B6 "put" "Outline.put" Np fX!
 J4:Dk K t.B6 "can_move" "Outline.can_move" Kh mv!
 J5:Dk K t.B6 "move" "Outline.move" Na fX!
 J6:Dk K t.B6 "write" "Outline.write" Md wG!
 J7:Dk K t.B6 "cut" "Outline.cut" Nr wG_
 J8:Dk K t.B6 "set_number" "Outline.set_number" Iz mz!
 J9:Fh K mg "is_undo_or_redo" Kv cA_
 K0:Fh K mg "last_words" Oy b8!
 K3:Fh K mg "undone" Tu b8!
 K4:Fh K mg "play" Ws mH!
 K5:Fh K mg "played" Tv b8!
 K6:Rx K mg "Hand" t.B5 "Hand.__init__" Sk mI!
 K7:Dk K t.B5 "have" "Hand.have" Pw mJ!
 K8:Fh K mg "all_taken" Pr bd!
 K9:Fh K mg "outline_of" Ox bd!
 L4:Fh K mg "was_taken" Po bq!
 L5:Fh K mg "is_next" Sg bq!
 L6:Fh K mg "last_time" Pp mM_
 L7:Fh K mg "not_yet_taken" Mc dr_
 L8:Fh K mg "check_times" No [M_,iC!]
 L9:Fh K mg "check_message" Hu dr_
 M9:Fh K mg "accept" Tw bq!
 N0:Fh K mg "accept_waiting" Fa bd!
 N3:Fh K mg "receive" Se bq!
 N4:Fh K mg "take" Wr dr_
 N5:Fh K mg "give" Te [M_,"have"]
 N6:Fh K mg "outline_with" Mw [M_,av_]
 N7:Fh K mg "next_time" Lf bd!
 N8:Fh K mg "make" Wu [M_,"deed"]
 N9:Fh K mg "put" Yn iF_
 O0:Fh K mg "_law_cell" Va f6!
 O3:Fh K mg "_law_mix" Ww f6!
 O4:Fh K mg "_law_whole" Ua [dl!]
 O5:Fh K mg "_law_items" Ph ey_
 O6:Fh K mg "_law_signs" Ub ey_
 O7:Fh K mg "_law_text" Qy [bM_,f7!]
 O8:Fh K mg "_law_pick" Uz m7!
 O9:Fh K mg "_law_deed" Ra wH_
 P0:Fh K mg "_law_world" Tz wI!
 P1:Fh K mg "_law_try" Wv [h9!,ed_]
 P3:Fh K mg "_law_settle" Nt [cD!,ed!]
 P4:Fh K mg "_law_message" Qz wJ!
 P5:Fh K mg "_law_due" Pv wI_
 P6:Fh K mg "law" Jf [aW!]
 P7:mg "abs"=none
 P8:mg "all"=none
 P9:mg "bool"=none
 Q0:mg "dict"=none
 Q1:mg "enumerate"=none
 Q2:mg "int"=none
 Q3:mg "isinstance"=none
 Q4:mg "len"=none
 Q5:mg "list"=none
 Q6:mg "max"=none
 Q7:mg "ord"=none
 Q8:mg "range"=none
 Q9:mg "sorted"=none
 R0:mg "str"=none
 R3:mg "tuple"=none
 R4:mg "zip"=none
 R5:∃tk,mg "HANDS"=some wJ_
 R6:∃tk,mg "SIGNS"=some wJ_
 R7:∃tk,mg "PLACES"=some (.int 4 tk)
 R8:∃tk,mg "LEFT_OUT"=some (.int 37 tk)
 R9:∃tk,mg "MOST_WAITING"=some (.int 8 tk)
 S0:mg "is_item"=some (.ref t.A0)
 S3:mg "is_sibling"=some (.ref t.A7)
 S4:mg "is_behind"=some (.ref t.A8)
 S5:mg "is_text"=some (.ref t.A9)
 S6:mg "is_sign_name"=some (.ref t.B0)
 S7:mg "is_from_one"=some (.ref t.B1)
 S8:mg "is_place"=some (.ref t.B2)
 S9:mg "is_whole"=some (.ref t.B3)
 T0:mg "is_name"=some (.ref t.B4)
 T2:Rz K t.B5
 T3:Rz K t.B6
 T4:Rz K t.B7
 T5:mg "HandsError"=some i2_
 T6:mg "NoDeed"=some (.ref bP_)
 T7:mg "NoTime"=some (.ref cN!)
 T8:mg "NotThere"=some (.ref t.NotThere)
 T9:mg "Unlike"=some (.ref ce_)
 U0:XS.Xp K bP_
 U1:XS.Xp K cN!
 U2:XS.Xp K t.NotThere
 U3:XS.Xp K ce_
 U4:XS.Xs K wK_
 U5:W.subIn K (.ref bP_) i2_=some true
 U6:W.subIn K (.ref cN!) i2_=some true
 U7:W.subIn K (.ref ce_) i2_=some true
 U8:DL.Mo K t.NoTime bP_
 U9:DL.Mo K t.NoTime ce_
 V0:DL.Mo K t.Unlike bP_
 V1:Da K t.B7 "following"
 V2:Da K t.B7 "preceding"
 V3:Da K t.B6 "parents"
 V4:Da K t.B6 "rows"
 V5:Da K t.B6 "texts"
 V6:Da K t.B6 "numbers"
 V7:Da K t.B6 "written"
 V8:Da K t.B6 "hidden"
 V9:Da K t.B5 "ours"
 W3:Da K t.B5 "taken"
 W4:Da K t.B5 "waiting"
 W5:Da K t.B5 "outline"
 W6:∀X:Cx,X.prog=P->X.w=w->X.K=K->X.mg=mg->Rw X "PARTS" fQ!
end K12
namespace K12
open PySem L2 DL
open Classical
def lG:∀(l:p_) (d v:D),kget gl! d=some v
 |[],d,v=>by simp[Bq,kget]
 |(k,x)::r,d,v=>by
  unfold Bq;by_cases h:k=d
  .rw[HC h];simp[kget,h]
  .rw[HA h];simp[kget,h,lG r d v]
def pX(h:d≠e):∀(l:p_) (v:D),kget gl! e=kget l e
 |[],v=>by simp[Bq,kget,h]
 |(k,x)::r,v=>by
  unfold Bq;show"#("
  .rw[aV!];subst hk;simp[kget,h]
  .rw[aV_];simp only[kget];rw[pX h r v]
def b4z(h:d≠e):∀(l:p_),kget gl_ e=kget l e
 |[]=>rfl
 |(k,x)::r=>by
  unfold Gc;show"#("
  .rw[aV!];subst hk;simp[kget,h]
  .rw[aV_];simp only[kget];rw[b4z h r]
def yW:∀{l:p_} {d:D},kget l d≠none↔d∈l.map c_
 |[],d=>by simp[kget]
 |(k,x)::r,d=>by
  unfold kget;show"#("
  .subst hk;simp
  .rw[aV_,yW];simp[IA hk]
def a1v:∀{l:p_} {d:D},(cZ_).Nodup->kget gl_ d=none
 |[],d,_=>rfl
 |(k,x)::r,d,h=>by
  rw[HD,HR]at h;unfold Gc;show"#("
  .rw[aV!];subst hk;cases e:kget r k with
   |none=>rfl
   |some v=>exact absurd (yW.mp oN!) h.1
  .rw[aV_];unfold kget;rw[aV_];exact a1v h.2
def a7j:∀{l:p_} {d v:D} {e:D},e∈(gl!).map c_↔e=d\/e∈l.map c_
 |[],d,v,e=>by simp[Bq]
 |(k,x)::r,d,v,e=>by
  unfold Bq;show"#("
  .rw[aV!];subst hk;simp
  .rw[aV_];simp only[HD,GT];rw[a7j];constructor<;>(rintro(h|h|h)<;>simp[h])
def jG:∀{l:p_} {d v:D},(cZ_).Nodup->((gl!).map c_).Nodup
 |[],d,v,_=>by simp[Bq]
 |(k,x)::r,d,v,h=>by
  rw[HD,HR]at h;unfold Bq;show"#("
  .rw[aV!];simp only[HD,HR];exact h
  .rw[aV_];simp only[HD,HR];refine⟨dH_,jG h.2⟩;obtain z|z:=a7j.mp z
   .exact hk z
   .exact h.1 z
def b5b:∀{l:p_} {d e:D},e∈(gl_).map c_->e∈l.map c_
 |[],d,e,h=>by simp[Gc]at h
 |(k,x)::r,d,e,h=>by
  unfold Gc at h;show"#("
  .rw[aV!]at h;simp only[HD,GT];exact .inr h
  .rw[aV_]at h;simp only[HD,GT]at h ⊢;obtain h|h:=h
   .exact .inl h
   .exact .inr (b5b h)
def b5c:∀{l:p_} {d:D},(cZ_).Nodup->((gl_).map c_).Nodup
 |[],d,_=>by simp[Gc]
 |(k,x)::r,d,h=>by
  rw[HD,HR]at h;unfold Gc;show"#("
  .rw[aV!];exact h.2
  .rw[aV_];simp only[HD,HR];exact⟨λz=>h.1 (b5b z),b5c h.2⟩
def iS:kget gl! z=if z=d then some v else kget l z:=by
 by_cases h:z=d
 .rw[HC h,h,lG]
 .rw[HA h,pX (IA h)]
def b5a(nd:(cZ_).Nodup):kget gl_ z=if z=d then none else kget l z:=by
 by_cases h:z=d
 .rw[HC h,h,a1v nd]
 .rw[HA h,b4z (IA h)]
def Qf:D->List D->D->Option D
 |a,[],z=>if z=a then some .non else none
 |a,x::r,z=>if z=a then some x else Qf x r z
nonrec def lst:D->List D->D
 |a,[]=>a
 |_,x::u=>lst x u
def rA:∀{u:b!} {a:D},lst a u∈a::u
 |[],_=>GR
 |_::_,_=>GO _ rA
def a7f:∀{u:b!} {a:D},lst a (u++[x])=x
 |[],_=>rfl
 |_::u,_=>a7f (u:=u)
def nJ:∀{u:b!} {a:D},u.reverse.headD a=lst a u
 |[],_=>rfl
 |x::u,a=>by
  rw[List.reverse_cons];refine Eq.trans ?_ (nJ (u:=u) (a:=x));cases u.reverse<;>rfl
def b4s:∀{l:b!},Qf a l a=some (l.headD .non)
 |[]=>HC rfl
 |_::_=>HC rfl
def c4w(h:z≠a)(g:z≠b):∀{l:b!},Qf a l z=Qf b l z
 |[]=>(HA h).trans (HA g).symm
 |_::_=>(HA h).trans (HA g).symm
def yG:∀{l:b!} {a z:D},Qf a l z≠none↔z∈a::l
 |[],a,z=>by unfold Qf;by_cases h:z=a<;>simp[h]
 |x::r,a,z=>by
  unfold Qf;by_cases h:z=a
  .simp[h]
  .rw[HA h,yG,GT (a:=z) (b:=a)];simp[h]
def c4v(h:z∉a::l):Qf a l z=none:=IJ λe=>h (yG.mp e)
def rB:∀{l:b!} {a z v:D},Qf a l z=some v->v=.non\/v∈l
 |[],a,z,v,h=>by
  unfold Qf at h;split at h
  .cases h;exact .inl rfl
  .cases h
 |x::r,a,z,v,h=>by
  unfold Qf at h;split at h
  .cases h;exact .inr GR
  .exact(rB h).imp_right (GO _)
def a4x:∀{u:b!} {a:D},(a::u).Nodup->Qf a aM! (lst a u)=some dx_
 |[],_,_=>b4s
 |x::u,a,nd=>by
  rw[HR]at nd;exact(HA λe:lst x u=a=>nd.1 (by rw[<-e];exact rA)).trans (a4x nd.2)
def rC:∀{u:b!} {a:D},n∉a::u->(a::u).Nodup->∀z,Qf a ck! z=if z=n then some dx_ else if z=lst a u then some n else Qf a aM! z
 |[],a,hn,_,z=>by
  show(if z=a then some n else Qf n v z)=if z=n then _ else if z=a then _ else Qf a v z
  by_cases c:z=n
  .subst c;rw[HA λe:z=a=>hn wQ_,A!,b4s]
  .rw[HA c];by_cases d:z=a
   .rw[HC d,HC d]
   .rw[HA d,HA d];exact c4w c d
 |x::u,a,hn,nd,z=>by
  rw[GT,OV]at hn;rw[HR]at nd;show(if z=a then some x else Qf x ck! z)=if z=n then _ else if z=lst x u then _ else(if z=a then some x else Qf x aM! z)
  rw[rC hn.2 nd.2];by_cases c:z=a
  .rw[HC c,HC c,HA λe:z=n=>hn.1 (e.symm.trans c),HA λe:z=lst x u=>nd.1 (by rw[<-c,e];exact rA)]
  .rw[HA c,HA c]
structure Ft(xs:b!)(k:p_):Prop where
 f:∀z,kget k z=Qf .non xs z
 kn:(k.map c_).Nodup
 nd:(D.non::xs).Nodup
 hk:∀x∈xs,∃k,De x=some k
def b3v:∀{l m:ad_},l.Nodup->(∀a∈l,a∈m)->bL!<=m.length
 |[],_,_,_=>IF _
 |a::l,m,h,hs=>by
  rw[HR]at h;have ha:=hs a GR;have:=b3v (m:=m.erase a) h.2 λb hb=>(List.mem_erase_of_ne λz:b=a=>h.1 dV_).mpr (hs b (GO _ hb));rw[List.length_erase_of_mem ha]at this;have:=List.length_pos_of_mem ha;rw[HJ];omega
section
def Ft.has(h:Ft xs k):kget k z≠none↔z∈D.non::xs:=by rw[h.f];exact yG
def Ft.len(h:Ft xs k):i3_<=g!+1:=by have:=b3v (m:=D.non::xs) h.kn λa ha=>h.has.mp (yW.mpr ha);simpa using this
def Ft.key(h:Ft xs k)(hz:z∈D.non::xs):∃k,De z=some k:=by
 obtain rfl|hz:=GT.mp hz
 .exact I_
 .exact h.hk z hz
def Ft.ins(h:Ft aM! k)(hn:n∉D.non::aM!)(hm:∃k,De n=some k)(kn:wV_)(e:∀z,kget k' z=if z=n then some dx_ else if z=lst .non u then some n else kget k z):Ft ck! k':=by
 have nd:=h.nd;show"!o";refine⟨dH_,kn,p.nodup_iff.mpr (HR.mpr ⟨hn,nd⟩),G_⟩
 .rw[<-LW,GS,OV]at hn;rw[e,h.f,rC hn.1 (IM.mp nd).1]
 .obtain z|z:=GS.mp hx
  .exact h.hk x hC!
  .obtain rfl|z:=GT.mp z
   .exact hm
   .exact h.hk x hW_
def Ft.out(h:Ft ck! k)(kn:wV_)(e:∀z,kget k' z=if z=lst .non u then some dx_ else if z=n then none else kget k z):Ft aM! k':=by
 show"!o";have nd:=HR.mp (p.nodup_iff.mp h.nd);show"#D";rw[<-LW]at n2;have nu:=(IM.mp n2).1;refine⟨dH_,kn,nd.2,λx hx=>h.hk x (GS.mpr ((cQ!).imp_right (GO _)))⟩;rw[e,h.f,rC n1.1 nu];by_cases c:z=lst .non u
 .rw[HC c,c,a4x nu]
 .rw[HA c];by_cases d:z=n
  .rw[HC d,d,c4v nd.1]
  .rw[HA d,HA d,HA c]
end
def a0k:Ft [] nF_:=⟨λz=>by show(if D.non=z then _ else _)=if z=D.non then _ else _;simp only[eq_comm];rfl,R_,R_,λ_ h=>by cases h⟩
def nV:∀{l:List (α×β)} {a:α} {b c:β},(cZ_).Nodup->fh!∈l->(a,c)∈l->b=c
 |[],_,_,_,_,h,_=>by cases h
 |(x,y)::r,a,b,c,nd,Y,h2=>by
  rw[HD,HR]at nd;obtain z|z:=GT.mp Y<;>obtain w|w:=GT.mp h2
  .cases z;cases w;rfl
  .cases z;exact absurd (HH (f:=c_) w) nd.1
  .cases w;exact absurd w1! nd.1
  .exact nV nd.2 z w
def Vr(n a:D):List D->List D
 |[]=>[]
 |x::r=>if x=a then x::n::r else x::Vr n a r
def Lk(n a:D)(xs:b!):List D:=if a∈xs then Vr n a xs else n::xs
def jH:∀{u v:b!},a∉u->Vr n a (u++a::v)=u++a::n::v
 |[],v,_=>by simp[Vr]
 |x::u,v,h=>by
  rw[GT,OV]at h;simp only[LW,Vr];rw[ke!,jH h.2]
def kW:∀{l:ad_},a∈l->∃u v,l=u++a::v/\a∉u
 |x::r,h=>by
  by_cases e:a=x
  .exact⟨[],r,sc!,R_⟩
  .obtain⟨u,v,rfl,hu⟩:=kW ((GT.mp h).resolve_left e);exact⟨x::u,v,rfl,by simp[e,hu]⟩
def lO(n o:D)(xs:b!):∃u v,xs=u++v/\Lk n o xs=u++n::v/\lst .non u=if o∈xs then o else .non:=by
 unfold Lk;by_cases h:o∈xs
 .obtain⟨u,v,rfl,hu⟩:=kW h;exact⟨u++[o],v,R_,by rw[HC h,jH hu];simp,by rw[HC h,a7f]⟩
 .exact⟨[],xs,rfl,w3_,w3_⟩
def c7r:(Str.ofString "preceding"==Str.ofString "following")=false:=by decide+kernel
def c2n:(Str.ofString "following"==Str.ofString "following")=true:=by decide+kernel
def lkP:List.lookup (Str.ofString "preceding") [(Str.ofString "following",a),(Str.ofString "preceding",b)]=some b:=by simp[II,c7r]
structure Hk(t:Bl)(M:Mh)(r f p:yz!)(xs:b!):Prop where
 ob:M r=some nH!
 dc:∃kf ef kp ep,M f=some w6!/\M p=some w5!/\Ft xs kf/\Ft xs.reverse kp
 ne:f≠p
def b0e:Bv d=true↔d=.non:=by cases d<;>simp[Bv]
def nS(hd:d≠.non):Bv d=false:=by cases q:Bv d with|false=>rfl|true=>exact absurd (b0e.mp q) hd
section
def a2f(h:nH_)(hk:a3_)(hR:R (.bl (decide (d∈xs))) M):Dz t [.fn r,d] M R:=by
 obtain⟨kf,ef,kp,ep,hf,hp,K,_⟩:=h.dc;refine p!;by_cases hd:d=.non
 .subst hd;rw[HB (HR.mp K.nd).1]at hR;simpa[Jl,Bg,Km,wT,wl,f2,fVar,fC,Am,Bv]using hR
 .have e3:(kget kf d).isSome=decide (d∈xs):=by
   have:=K.has (z:=d);cases q:kget kf d with
   |none=>rw[q]at this;simp[hd]at this;simp[this]
   |some v=>rw[q]at this;simp[hd]at this;simp[this]
  rw[<-e3]at hR;simpa[Jl,Bg,Km,wT,wl,f2,fVar,fC,Am,nS hd,w2,An,Ic,h.ob,Du,Kz,hf,hk,c2n]using hR
structure RW(t:Bl)(M0 M:Mh)(r f p:yz!)(kf kp:p_):Prop where
 ob:M r=some nH!
 hf:∃e,M f=some (.dct kf e)
 hp:∃e,M p=some (.dct kp e)
 ne:f≠p/\r≠f/\r≠p
 fr:∀b,b≠f->b≠p->M b=M0 b
section
variable{M0:Mh}
def RW.upF(h:ck_):RW t M0 (mup M f (.dct c e)) r f p c kp:=by obtain⟨n1,n2,n3⟩:=h.ne;obtain⟨ep,hp⟩:=h.hp;exact⟨(mup_ne n2).trans h.ob,w7!,⟨ep,(mup_ne (IA n1)).trans hp⟩,h.ne,λb b1 b2=>(mup_ne b1).trans w7_⟩
def RW.upP(h:ck_):RW t M0 (mup M p (.dct c e)) r f p kf c:=by obtain⟨n1,n2,n3⟩:=h.ne;obtain⟨ef,hf⟩:=h.hf;exact⟨(mup_ne n3).trans h.ob,⟨ef,(mup_ne n1).trans hf⟩,w7!,h.ne,λb b1 b2=>(mup_ne b2).trans w7_⟩
def RW.fol(h:ck_)(h0:eI_)(K:t_):An t.B7 "following" i! ρ M K=K (.fn f) M:=by simp[An,wl,h0,Ic,h.ob,c2n,Du]
def RW.pre(h:ck_)(h0:eI_)(K:t_):An t.B7 "preceding" i! ρ M K=K z_ M:=by simp[An,wl,h0,Ic,h.ob,lkP,Du]
def RW.pf(h:ck_)(h0:eI_)(hi:eJ!)(hv:w8_)(hk:a3!)(hl:kf.length<big)(q:∀M',RW t M0 M' r f p (Bq kf y v) kp->Q Z_ M'):Cg b8_ gn_ (wl fv) ρ M Q:=by obtain⟨e,hf⟩:=h.hf;simpa[Cg,wl,hv,hi,h.fol h0,Kx,hf,hk,hl,Du]using q _ h.upF
def RW.pp(h:ck_)(h0:eI_)(hi:eJ!)(hv:w8_)(hk:a3!)(hl:kp.length<big)(q:∀M',RW t M0 M' r f p kf (Bq kp y v)->Q Z_ M'):Cg ej_ gn_ (wl fv) ρ M Q:=by obtain⟨e,hp⟩:=h.hp;simpa[Cg,wl,hv,hi,h.pre h0,Kx,hp,hk,hl,Du]using q _ h.upP
def RW.popF(h:ck_)(h0:eI_)(hi:eJ!)(hk:a3!)(hv:kget kf y=some v)(q:∀M',RW t M0 M' r f p (Gc kf y) kp->K v M'):Qq b8_ gn_ ρ M K:=by obtain⟨e,hf⟩:=h.hf;simpa[Qq,wl,hi,h.fol h0,Dl,hf,hk,hv,Du]using q _ h.upF
def RW.popP(h:ck_)(h0:eI_)(hi:eJ!)(hk:a3!)(hv:kget kp y=some v)(q:∀M',RW t M0 M' r f p kf (Gc kp y)->K v M'):Qq ej_ gn_ ρ M K:=by obtain⟨e,hp⟩:=h.hp;simpa[Qq,wl,hi,h.pre h0,Dl,hp,hk,hv,Du]using q _ h.upP
def RW.of(h:nH_):∃kf kp,RW t M M r f p kf kp/\Ft xs kf/\Ft xs.reverse kp:=by obtain⟨kf,ef,kp,ep,hf,hp,K,Kp⟩:=h.dc;exact⟨kf,kp,⟨h.ob,⟨ef,hf⟩,⟨ep,hp⟩,⟨h.ne,(λz=>by have:=h.ob;rw[z,hf]at this;cases this),λz=>by have:=h.ob;rw[z,hp]at this;cases this⟩,w9!⟩,K,Kp⟩
def RW.at(h:ck_)(K:Ft xs kf)(Kp:Ft xs.reverse kp):Hk t M r f p xs:=by obtain⟨ef,hf⟩:=h.hf;obtain⟨ep,hp⟩:=h.hp;exact⟨h.ob,⟨kf,ef,kp,ep,hf,hp,K,Kp⟩,h.ne.1⟩
def sq(h:q1 ρ M λr M1=>match r with|.nx bd=>q2 bd M1 Q|.rt d=>Q af! M1):Ad q1 q2 ρ M Q:=h
end
def iP(h:nH_)(hn:xa_)(ho:De o=some ko)(nx:n∉D.non::xs)(hl:g!<5000)
  (hR:∀M',Hk t M' r f p (Lk n o xs)->xb_->R .non M'):Bw t [.fn r,n,o] M R:=by
 obtain⟨kf,kp,w,K,Kp⟩:=RW.of h;obtain⟨u,v,rfl,c2,ea⟩:=lO n o xs;have nd:=K.nd;have u6:kget kf xc!=some dx_:=(K.f _).trans (a4x (IM.mp nd).1);have ma:lst D.non u∈D.non::aM!:=by rw[<-LW];exact GU _ rA
 have mb:v.headD D.non∈D.non::aM!:=by
  obtain z|z:=rB xc_
  .rw[z];exact GR
  .exact GO _ z
 obtain⟨ka,we⟩:=K.key ma;obtain⟨kb,km⟩:=K.key mb;have nb:v.headD D.non≠n:=λz=>nx (z▸mb);have ev:v.headD D.non=lst .non i8_:=by rw[<-nJ,List.reverse_reverse]
 have eu:lst D.non u=u.reverse.headD .non:=nJ.symm;have L:=K.len;have L':=Kp.len;rw[List.length_reverse]at L';rw[List.reverse_append]at Kp;generalize ii:lst D.non u=a0 at *;generalize wf:v.headD D.non=b0 at *;have K1:=K.ins (k':=Bq xd! n b0) nx ⟨kn,hn⟩ (jG (jG K.kn)) λz=>by rw[iS,iS,wf,ii]
 have K2:=Kp.ins (n:=n) (k':=Bq xe! b0 n) (λz=>nx (by simpa[or_comm]using z)) ⟨kn,hn⟩ (jG (jG Kp.kn)) λz=>by
  rw[iS,iS,<-ev,<-eu];by_cases c:z=b0
  .rw[HC c,HA (c▸nb),HC c]
  .rw[HA c,HA c]
 have l1:kf.length<big:=by unfold big;omega
 have l2:kp.length<big:=by unfold big;omega
 have l3:(xd!).length<big:=JO gp_ bf!;have l4:(xe!).length<big:=JO gp_ bf!;refine p!;obtain⟨ef,hf⟩:=w.hf;show Ad ty_ _ xf_ M _;have hm:Dh t.B7 "holds" M i7_:=by simp[Dh,h.ob];exact⟨fL_,fL_⟩
 have e1:∀K:D->Mh->Prop,K a0 M->Zu tx_ M! bG! xf_ M K:=λK hK=>by
  refine⟨hm,rfl,a2f h ho ?_⟩;rw[ea]at hK;by_cases c:o∈u++v
  .rw[HC c]at hK;rw[HF c];exact hK
  .rw[HA c]at hK;rw[HB c];exact hK
 refine e1 _ ?_;have e2:Do M (.fn f) a0=some b0:=by simp[Do,hf,we,u6]
 have e3:∀K:D->Mh->Prop,K b0 M->w2 Do b8_ bo_ [gq!,a0_,some o,some a0,none] M K:=λK hK=>by
  unfold w2;rw[w.fol rfl];show wl T_ _ M _;simpa[wl,fVar,e2]using hK
 refine e3 _ ?_;refine sq (w.pf (ρ:=[gq!,a0_,some o,some a0,some b0]) rfl rfl rfl we l1 λM1 w=>?_);refine sq (w.pp rfl rfl rfl hn l2 λM2 w=>?_);refine sq (w.pf rfl rfl rfl hn l3 λM3 w=>?_);exact w.pp rfl rfl rfl km l4 λM4 w=>hR M4 (by rw[c2];exact w.at K1 xh!) w.fr
def a0e(h:Hk t M r f p ck!)(hn:xa_)(hl:(ck!).length<5000)
  (hR:∀M',Hk t M' r f p aM!->xb_->R .non M'):Ha t [.fn r,n] M R:=by
 obtain⟨kf,kp,w,K,Kp⟩:=RW.of h;have e1:(ck!).reverse=i8_++n::u.reverse:=by simp
 have at_:∀{u v:b!} {k:p_},Ft ck! k->kget k n=some dx_/\n∉D.non::aM!:=λ{u v k} K=>by
  show"!o";have nd:=HR.mp (p.nodup_iff.mp K.nd);refine⟨?_,nd.1⟩;show"#D";rw[K.f,rC n1.1 (IM.mp n2).1,A!]
 have L:=K.len;have L':=Kp.len;rw[List.length_reverse]at L';rw[e1]at Kp;have ev:v.headD D.non=lst .non i8_:=by rw[<-nJ,List.reverse_reverse]
 have u6:=(at_ K).1;have zq:=(at_ Kp).1;obtain⟨kb,km⟩:=K.key (z:=v.headD .non) (by obtain z|z:=rB xc_;rw[z];exact GR;exact GO _ z);obtain⟨ka,we⟩:=Kp.key (z:=u.reverse.headD .non) (by obtain z|z:=rB ((Kp.f _).symm.trans zq);rw[z];exact GR;exact GO _ z);have eu:lst D.non u=u.reverse.headD .non:=nJ.symm;have K1:=K.out (k':=Bq (Gc kf n) xc! dx_) (jG (b5c K.kn)) λz=>by rw[iS,b5a K.kn]
 have K2:=Kp.out (k':=Bq (Gc kp n) (lst .non i8_) (u.reverse.headD .non)) (jG (b5c Kp.kn)) λz=>by rw[iS,b5a Kp.kn]
 rw[<-ev]at K2;rw[eu]at K1;generalize u.reverse.headD D.non=a0 at *;generalize v.headD D.non=b0 at *;have dl:∀{l:p_},(Gc l n).length<=bL!:=λ{l}=>by
  induction l with
  |nil=>exact HK _
  |cons q l ih=>unfold Gc;split;exact JW _;exact Nat.succ_le_succ ih
 have l1:(Gc kf n).length<big:=JO dl bf!;have l2:(Gc kp n).length<big:=JO dl bf!;refine p!;show Ad tC! _ [gq!,a0_,none,none] M _;refine sq ?_;unfold Ai;refine w.popP rfl rfl hn zq λM1 w=>sq ?_;refine w.popF rfl rfl hn u6 λM2 w=>sq ?_;refine w.pf (ρ:=[gq!,a0_,some a0,some b0]) rfl rfl rfl we l1 λM3 w=>?_;exact w.pp rfl rfl rfl km l2 λM4 w=>hR M4 (w.at K1 xh!) w.fr
end
end K12
namespace K12
open PySem L2 DL
abbrev root:D:=.str "root"
abbrev Db:D:=.str "bin"
def b2c:root≠Db:=by intro z;simp only[D.str.injEq]at z;exact absurd z k_
def Ig(x:D):Prop:=∃a b,x=.tup xj!
def Rt(x:D):Prop:=∃a b c,x=.tup xj_
def Ig.key(h:Ig x):∃k,De x=some k:=by obtain⟨a,b,rfl⟩:=h;exact I_
def Ig.nn(h:Ig x):x≠.non/\x≠root/\x≠Db:=by obtain⟨a,b,rfl⟩:=h;refine⟨?_,?_,?_⟩<;>(intro z;cases z)
def Rt.nn(h:Rt x):x≠.non:=by obtain⟨a,b,c,rfl⟩:=h;intro z;cases z
structure OW where
 rows:List ao_
 its:List D
 txt:D->List eK!
 num:D->List D
open Classical in
def Hg(rows:p_)(x:D):List D:=(rows.filter λq=>q.2=x).map c_
open Classical in
nonrec def wo(rows:p_)(i:D):List ao_:=rows.filter λq=>q.1≠i
inductive Wn(rows:p_)(i:D):D->Prop
 |here:Wn rows i i
 |up {x p:D}:eK_∈rows->Wn rows i p->Wn rows i x
def Rv(rows:p_)(i p s:D)(a8:p_):Prop:=∃u v,wo rows i=u++v/\a8=u++cQ_::v/\((s∉Hg eL! p/\Hg u p=[])\/∃u',u=u'++[(s,p)])
def Jr(W:OW)(x:D):Prop:=x∈W.its\/x=root\/x=Db
structure Ek(W:OW):Prop where
 nd:W.its.Nodup
 nm:∀x∈W.its,Ig x
 rnd:(W.rows.map c_).Nodup
 ri:∀x,x∈W.rows.map c_↔x∈W.its
 rp:∀i p,cQ_∈W.rows->Jr W p
 rk:∃rk:D->Nat,∀i p,cQ_∈W.rows->rk p<rk i
 snd:∀x∈W.its,((dy_).map c_).Nodup
 sg:∀x∈W.its,∀q∈W.txt x,Rt q.1
 su:∀x∈W.its,∀y∈W.its,∀q∈W.txt x,∀q'∈W.txt y,q.1=q'.1->x=y
 nl:∀x∈W.its,(W.num x).length=4
section
open Classical
def jD:q∈wo rows i↔q∈rows/\q.1≠i:=by unfold wo;rw[JG];simp
def nE:c∈Hg rows x↔(c,x)∈rows:=by
 unfold Hg;rw[HI];show"!|"
 .rintro⟨⟨a,b⟩,h,rfl⟩;rw[JG]at h;have:=h.2;simp at this;rw[<-this];exact h.1
 .intro h;exact⟨(c,x),JG.mpr ⟨h,R_⟩,rfl⟩
def eU:Hg aM! x=Hg u x++Hg v x:=by unfold Hg;rw[OZ,HZ]
def iT:Hg (cQ_::v) p=i::Hg v p:=by unfold Hg;rw[LK d_];rfl
def a2y(h:p≠x):Hg (cQ_::v) x=Hg v x:=by unfold Hg;rw[JT jq!]
def rL:((eL!).map c_).Sublist oC!:=by unfold wo;exact(zF!).map _
def Rv.chl_same(h:i9_)(nd:gJ_):Hg a8 p=Lk i s (Hg eL! p):=by
 obtain⟨u,v,e,rfl,hc⟩:=h;rw[eU,iT];have kz:(xl!).Nodup:=by rw[<-e];exact nd.sublist rL
 obtain⟨Y,h2⟩|⟨u',rfl⟩:=hc
 .unfold Lk;rw[HA Y,e,eU,h2];rfl
 .rw[e];have hs:s∈Hg xl_ p:=nE.mpr d_;unfold Lk;have h2:Hg (u'++[(s,p)]) p=Hg u' p++[s]:=by rw[eU,iT];rfl
  have h3:Hg xl_ p=Hg u' p++s::Hg v p:=by rw[eU,h2];simp
  rw[HC hs,h2,h3];have hu:s∉Hg u' p:=λz=>by
   have:=nE.mp z;simp only[HZ,HD,LZ,IY]at kz;rw[IM]at kz;exact kz.2.2 _ (HH (f:=c_) this) s d_ rfl
  rw[jH hu];simp
def Rv.chl_ne(h:i9_)(hx:p≠x):Hg a8 x=Hg eL! x:=by obtain⟨u,v,e,rfl,hc⟩:=h;rw[eU,a2y hx,e,eU]
def Rv.mem(h:i9_):q∈a8↔q=cQ_\/q∈wo rows i:=by
 obtain⟨u,v,e,rfl,hc⟩:=h;rw[e];simp only[GS,GT];show"!|"
 .rintro(z|z|z)<;>simp[z]
 .rintro(z|z|z)<;>simp[z]
def Rv.nd(h:i9_)(nd:gJ_):(a8.map c_).Nodup:=by
 obtain⟨u,v,e,rfl,hc⟩:=h;have kz:(xl!).Nodup:=by rw[<-e];exact nd.sublist rL
 have ni:i∉(aM!).map c_:=λz=>by
  obtain⟨q,hq,hi⟩:=HI.mp z;rw[<-e]at hq;exact(jD.mp hq).2 hi
 simp only[HZ,HD]at kz ni ⊢;rw[IM]at kz ⊢;rw[GS,OV]at ni;refine⟨kz.1,HR.mpr ⟨ni.2,kz.2.1⟩,λa ha b hb=>?_⟩;obtain rfl|hb:=GT.mp hb
 .exact λz=>ni.1 (z▸ha)
 .exact kz.2.2 a ha b hb
def wL(h:(i,x)∉rows):Hg eL! x=Hg rows x:=by unfold Hg wo;rw[OY];congr 1;apply KS;intro q hq;simp only[ne_eq,decide_not,Bool.and_eq_left_iff_imp,HS,QK,KM,PV];rintro rfl z;exact h xm_
def a5q(nd:gJ_)(h:(i,x)∈rows):∃u v,Hg rows x=u++i::v/\Hg eL! x=u++v:=by
 obtain⟨a,b,e,_⟩:=kW h;have n1:i∉(a++b).map c_:=by
  rw[e]at nd;simp only[HZ,HD]at nd ⊢;rw[IM,HR]at nd;rw[GS,OV];exact⟨λz=>nd.2.2 _ z i d_ rfl,nd.2.1.1⟩
 have e2:wo rows i=a++b:=by
  unfold wo;rw[e,OZ,JT d_];have keep:∀l:List ao_,i∉l.map c_->l.filter (λq=>decide (q.1≠i))=l:=λl hl=>JL.mpr λq hq=>by
   simp only[ne_eq,decide_not,QK,KM,PV];exact λz=>hl nK_
  rw[HZ,GS,OV]at n1;rw[keep a n1.1,keep b n1.2]
 refine⟨Hg a x,Hg b x,?_,?_⟩
 .rw[e,eU,iT]
 .rw[e2,eU]
def b1c(nd:gJ_)(h:eK_∈rows)(hx:x≠i):Wn rows i x↔Wn rows i p:=by
 show"!|"
 .intro z;cases z with
  |here=>exact absurd rfl hx
  |up h2 z=>rw[nV nd h h2];exact z
 .exact λz=>.up h z
def c2u(h:∀p,eK_∉rows)(hx:x≠i):¬Wn rows i x:=λz=>by
 cases z with
 |here=>exact hx rfl
 |up h2 _=>exact h _ h2
def Rv.winv(h:Rv W.rows i p s a8)(w:Ek W)(hi:dz_)(hp:Jr W p)(hw:¬Wn W.rows i p):Ek {W with rows:=a8}:=by
 refine⟨w.nd,w.nm,h.nd w.rnd,nL!,jb!,?_,w.snd,w.sg,w.su,w.nl⟩
 .show x∈a8.map c_↔x∈W.its;rw[<-w.ri x];show"!|"
  .intro z;obtain⟨q,hq,rfl⟩:=HI.mp z;obtain rfl|hq:=h.mem.mp hq
   .exact(w.ri i).mpr hi
   .exact HH (jD.mp hq).1
  .intro z;by_cases hx:x=i
   .subst hx;exact HI.mpr xn_
   .obtain⟨q,hq,rfl⟩:=HI.mp z;exact HH (h.mem.mpr (.inr (jD.mpr ⟨hq,hx⟩)))
 .show Jr W b;obtain z|z:=h.mem.mp hm
  .cases z;exact hp
  .exact w.rp _ _ (jD.mp z).1
 .obtain⟨rk,nq⟩:=w.rk;refine⟨λx=>if Wn W.rows i x then rk x+rk p+1 else rk x,jb!⟩;obtain z|z:=h.mem.mp hm
  .cases z;show"#=";rw[HA hw,HC .here];omega
  .obtain⟨z1,z2⟩:=jD.mp z;have:=nq _ _ z1;have q:=b1c w.rnd z1 z2;show"#=";by_cases c:Wn W.rows i a
   .rw[HC c,HC (q.mp c)];omega
   .rw[HA c,HA (λz=>c (q.mpr z))];show"#-"
def Mi(W:OW)(n:D)(a8:p_):OW:=⟨a8,W.its++[n],λx=>if x=n then[]else W.txt x,λx=>if x=n then[.int 0,.int 0,.int 0,.int 0]else W.num x⟩
def Rv.winv_put(h:Rv W.rows n p s a8)(w:Ek W)(hn:n∉W.its)(ht:Ig n)(hp:Jr W p):Ek eM_:=by
 have nn:n∉W.rows.map c_:=λz=>hn ((w.ri n).mp z);have wj:wo W.rows n=W.rows:=by
  refine JL.mpr λq hq=>?_;simp only[ne_eq,decide_not,QK,KM,PV];exact λz=>nn nK_
 have pn:p≠n:=λz=>by
  obtain q|q|q:=hp
  .exact hn (z▸q)
  .exact ht.nn.2.1 (z▸q)
  .exact ht.nn.2.2 (z▸q)
 have im:∀x,x∈(eM_).its↔x∈W.its\/x=n:=λx=>by simp[Mi]
 refine⟨?_,G_,h.nd w.rnd,nL!,jb!,?_,G_,G_,jc!,G_⟩
 .show(W.its++[n]).Nodup;rw[IM];exact⟨w.nd,R_,λa ha b hb=>by simp at hb;subst hb;exact λz=>hn (z▸ha)⟩
 .obtain z|rfl:=(im x).mp hx
  .exact w.nm x z
  .exact ht
 .rw[im,<-w.ri x];show"!|"
  .intro z;obtain⟨q,hq,rfl⟩:=HI.mp z;obtain rfl|hq:=h.mem.mp hq
   .exact jc_
   .rw[wj]at hq;exact .inl (HH hq)
  .rintro(z|rfl)
   .obtain⟨q,hq,rfl⟩:=HI.mp z;exact HH (h.mem.mpr (.inr (by rw[wj];exact hq)))
   .exact HI.mpr xn_
 .have up:∀y,Jr W y->Jr eM_ y:=λy hy=>by
   obtain q|q:=hy
   .exact .inl ((im y).mpr (.inl q))
   .exact .inr q
  obtain z|z:=h.mem.mp hm
  .cases z;exact up _ hp
  .rw[wj]at z;exact up _ (w.rp _ _ z)
 .obtain⟨rk,nq⟩:=w.rk;refine⟨λx=>if x=n then rk p+1 else rk x,jb!⟩;obtain z|z:=h.mem.mp hm
  .cases z;show"#=";rw[HA pn,A!];omega
  .rw[wj]at z;have ha:a≠n:=λq=>nn (q▸HH (f:=c_) z);have hb:b≠n:=λq=>by
    obtain y|y|y:=w.rp _ _ z
    .exact hn (q▸y)
    .exact ht.nn.2.1 (q▸y)
    .exact ht.nn.2.2 (q▸y)
   show"#=";rw[HA ha,HA hb];exact nq _ _ z
 .show((jd_).map c_).Nodup;split
  .simp
  .rename_i q;exact w.snd x nP_
 .show∀q∈jd_,Rt q.1;split
  .intro q hq;cases hq
  .rename_i q;exact w.sg x nP_
 .show∀q∈jd_,∀q'∈xq_,q.1=q'.1->x=y;split
  .intro q hq;cases hq
  .rename_i q1;split
   .intro q hq q' bg;cases bg
   .rename_i q2;exact w.su x ((nP!).resolve_right q1) y (((im y).mp hy).resolve_right q2)
 .show(if x=n then[.int 0,.int 0,.int 0,.int 0]else W.num x).length=4;split
  .rfl
  .rename_i q;exact w.nl x nP_
def Vq(b:D)(nw:bf_):List eK!->List eK!
 |[]=>[]
 |x::r=>if x.1=b then x::(nw++r)else x::Vq b nw r
nonrec def wrT(b:D)(nw l:bf_):List eK!:=if b∈l.map c_ then Vq b nw l else nw++l
def a5b(hq:q.1=b):b∉u.map c_->Vq b nw (u++q::v)=u++q::(nw++v):=by
 induction u with
 |nil=>intro _;simp[Vq,hq]
 |cons x u ih=>
  intro h;rw[HD,GT,OV]at h;simp only[LW,Vq];rw[ke!,ih h.2]
def uT(b:D)(nw l:bf_):∃u v,l=u++v/\wrT b nw l=u++nw++v/\((u=[]/\b∉l.map c_)\/∃u' q,u=u'++[q]/\q.1=b/\b∉u'.map c_):=by
 by_cases h:b∈l.map c_
 .obtain⟨u,v,e,hu⟩:=kW h;obtain⟨u',r,e1,e2,e3⟩:=List.map_eq_append_iff.mp e;obtain⟨q,v',e4,e5,e6⟩:=List.map_eq_cons_iff.mp e3;subst e4;refine⟨u'++[q],v',by simp[e1],?_,.inr ⟨u',q,rfl,e5,by rw[e2];exact hu⟩⟩;unfold wrT;rw[HC h,e1,a5b e5 (by rw[e2];exact hu)];simp
 .exact⟨[],l,rfl,by unfold wrT;rw[HA h];rfl,.inl eN_⟩
nonrec def setT(W:OW)(a:D)(l:bf_):OW:={W with txt:=λx=>if x=a then l else W.txt x}
def oM(w:Ek W)(ha:a∈W.its)(Y:(cZ_).Nodup)(h2:∀q∈l,Rt q.1)(h3:∀q∈l,∀y∈W.its,∀q'∈W.txt y,q.1=q'.1->y=a):Ek (setT W a l):=by
 refine⟨w.nd,w.nm,w.rnd,w.ri,w.rp,w.rk,G_,G_,jc!,w.nl⟩
 .show((nQ!).map c_).Nodup;split
  .exact Y
  .exact w.snd x hx
 .show∀q∈nQ!,Rt q.1;split
  .exact h2
  .exact w.sg x hx
 .show∀q∈nQ!,∀q'∈(if y=a then l else W.txt y),q.1=q'.1->x=y;split
  .rename_i e1;subst e1;split
   .rename_i e2;intro _ _ _ _ _;exact e2.symm
   .intro q hq q' bg e;exact(h3 q hq y hy q' bg e).symm
  .split
   .rename_i e2;subst e2;intro q hq q' bg e;exact h3 q' bg x hx q hq e.symm
   .exact w.su x hx y hy
def Wz(W:OW)(a:D)(l:b!):OW:={W with num:=λx=>if x=a then l else W.num x}
def a8w(w:Ek W)(hl:bL!=4):Ek (Wz W a l):=by
 refine⟨w.nd,w.nm,w.rnd,w.ri,w.rp,w.rk,w.snd,w.sg,w.su,G_⟩;show(if x=a then l else W.num x).length=4;split
 .exact hl
 .exact w.nl x hx
end
end K12
namespace K12
open PySem L2 DL
open Classical
nonrec def oF(a1 a2 a3 a4 a5 a6:yz!):List bS!:=[cl!,eO!,nQ_,xt_,("written",.fn a5),("hidden",.fn a6)]
section
def oF1:List.lookup (Str.ofString "parents") bu!=some (D.fn a1):=by kernel_rfl
def oF2:List.lookup (Str.ofString "rows") bu!=some (D.fn a2):=by kernel_rfl
def oF3:List.lookup (Str.ofString "texts") bu!=some (D.fn a3):=by kernel_rfl
def oF4:List.lookup (Str.ofString "numbers") bu!=some (D.fn a4):=by kernel_rfl
def oF5:List.lookup (Str.ofString "written") bu!=some (D.fn a5):=by kernel_rfl
def oF6:List.lookup (Str.ofString "hidden") bu!=some (D.fn a6):=by kernel_rfl
def oM1:List.lookup (Str.ofString "has") bu!=none:=by kernel_rfl
def oM2:List.lookup (Str.ofString "has_item") bu!=none:=by kernel_rfl
end
def rM:List.lookup (Str.ofString "put_behind") jg_=none/\List.lookup (Str.ofString "take_out") jg_=none/\List.lookup (Str.ofString "listed") jg_=none/\List.lookup (Str.ofString "holds") jg_=none:=⟨jh!,jh!,jh!,jh!⟩
inductive Sw
 |ob|par|dir (b:Bool)|nums|wri|hid|row (x:D) (b:Bool)|fol (x:D) (b:Bool)|pre (x:D) (b:Bool)|nm (x:D)
structure Ix where
 pr:D->D->Prop
 dm:Bool->D->Prop
 nd:D->Prop
 ls:D->Bool->List D
 wr:D->D->Prop
 hi:D->Prop
 nu:D->List D
def Ii(V:Ix):Sw->Prop
 |.row x b=>V.dm b x
 |.fol x b=>V.dm b x
 |.pre x b=>V.dm b x
 |.nm x=>V.nd x
 |_=>True
def Dc(B:Nat)(c:Jy)(P:List ao_->Prop):Prop:=∃k e,c=.dct k e/\i3_<=B/\P k
def TF(B:Nat)(c:Jy)(l:b!):Prop:=bL!<=B/\∃k e,c=.dct k e/\Ft l k
def Ty(t:Bl)(ad:nS!)(V:Ix)(B:Nat)(c:Jy):Sw->Prop
 |.ob=>c=.obj t.B6 xw!
 |.par=>Dc B c λk=>kget k root=some .non/\kget k Db=some .non/\∀i p,V.pr i p->kget k i=some p
 |.dir b=>Dc B c λk=>∀x,nT_/\nU!
 |.nums=>Dc B c λk=>∀x,V.nd x->kget k x=some xw_
 |.wri=>Dc B c λk=>∀s v,V.wr s v->kget k s=some v
 |.hid=>Dc B c λk=>∀s,(kget k s).isSome=true↔V.hi s
 |.row x b=>c=.obj t.B7 [("following",.fn nU_),("preceding",.fn nV!)]
 |.fol x b=>TF B c ji_
 |.pre x b=>TF B c (ji_).reverse
 |.nm x=>c=.lst (V.nu x)
structure Dm(t:Bl)(M:Mh)(ad:nS!)(V:Ix)(B:Nat):Prop where
 ty:∀r,Ii V r->∃c,M gs!=some c/\Ty t ad V B c r
 inj:∀r r',Ii V r->Ii V r'->ad r=ad r'->r=r'
def Uj(ad:nS!)(V:Ix)(b:yz!):Prop:=∃r,Ii V r/\ad r=b
def Sm(V V':Ix):Sw->Prop
 |.par=>V'.pr=V.pr
 |.dir b=>V'.dm b=V.dm b
 |.nums=>V'.nd=V.nd
 |.wri=>V'.wr=V.wr
 |.hid=>V'.hi=V.hi
 |.fol y b=>V'.ls y b=V.ls y b
 |.pre y b=>V'.ls y b=V.ls y b
 |.nm x=>V'.nu x=V.nu x
 |_=>0=0
def Sm.rfl{V:Ix}:Sm V V r:=by cases r<;>exact Eq.refl _
section
variable{ad a9:Sw->Addr}{V V':Ix}
def Dc.mono(h:Dc B c P)(hB:cR_)(q:∀k,P k->Q k):Dc B' c Q:=by obtain⟨k,e,Y,h2,h3⟩:=h;exact⟨k,e,Y,IL h2 hB,q k h3⟩
def Ty.tr(hB:cR_)(old:jj!)(l:Ii V r)(s:Sm V V' r)(ty:Ty t ad V B c r):Ty t a9 V' B' c r:=by
 cases r with
 |ob=>exact ty.trans (by rw[old .par trivial,old (.dir true) trivial,old xv_ trivial,old .nums trivial,old .wri trivial,old .hid trivial])
 |par=>have s:V'.pr=V.pr:=s;exact Dc.mono ty hB λk h=>by rw[s];exact h
 |dir b=>have s:V'.dm b=V.dm b:=s;exact Dc.mono ty hB λk h x=>by rw[s];exact⟨λz=>by rw[old ji! z];exact(h x).1 z,(h x).2⟩
 |nums=>have s:V'.nd=V.nd:=s;exact Dc.mono ty hB λk h x z=>by rw[s]at z;rw[old gr_ z];exact h x z
 |wri=>have s:V'.wr=V.wr:=s;exact Dc.mono ty hB λk h=>by rw[s];exact h
 |hid=>have s:V'.hi=V.hi:=s;exact Dc.mono ty hB λk h=>by rw[s];exact h
 |row x b=>exact ty.trans (by rw[old dA_ l,old dB! l])
 |fol x b=>have s:V'.ls x b=V.ls x b:=s;exact xz_
 |pre x b=>have s:V'.ls x b=V.ls x b:=s;exact xz_
 |nm x=>have s:V'.nu x=V.nu x:=s;exact ty.trans (by rw[s])
def Dm.go(h:aN!)(hB:cR_)(old:jj!)(inj:∀r r',Ii V' r->Ii V' r'->a9 r=a9 r'->r=r')
  (k:∀r,Ii V' r->(∃c,M' (a9 r)=some c/\Ty t a9 V' B' c r)\/(Ii V r/\M' gs!=M gs!/\Sm V V' r)):Dm t M' a9 V' B':=⟨λr hr=>by
 obtain z|⟨l,e,s⟩:=k r hr
 .exact z
 .obtain⟨c,e1,e2⟩:=h.ty r l;exact⟨c,by rw[old r l,e];exact e1,e2.tr hB old l s⟩,inj⟩
def Dm.cv(h:aN!)(hB:cR_)(hL:∀r,Ii V' r->Ii V r/\Sm V V' r):Dm t M ad V' B':=
 h.go hB q! (λr r' a b=>h.inj r r' (hL r a).1 (hL r' b).1) λr l=>.inr ⟨(nW_).1,rfl,(nW_).2⟩
def Dm.up(h:aN!)(hB:cR_)(l0:Ii V r0)(hc:Ty t ad V' B' c r0)(s:∀r,r≠r0->Ii V' r->Ii V r/\Sm V V' r):Dm t (mup M (ad r0) c) ad V' B':=by
 have hL:∀r,Ii V' r->Ii V r:=λr l=>by
  by_cases e:r=r0
  .rw[e];exact l0
  .exact(s r e l).1
 refine h.go hB q! (λr r' a b=>h.inj r r' (hL r a) (hL r' b)) λr l=>?_;by_cases e:r=r0
 .subst e;exact .inl ⟨c,mup_same,hc⟩
 .exact .inr ⟨hL r l,mup_ne λz=>e (h.inj r r0 nW_ l0 z),(s r e l).2⟩
def rP(l0:Ii V r0)(ha:¬Uj ad V a):mup M (ad r0) c a=M a:=mup_ne λz=>ha ⟨r0,l0,z.symm⟩
def Dm.ob(h:aN!):M (ad .ob)=some (.obj t.B6 xw!):=by obtain⟨_,e,rfl⟩:=h.ty .ob trivial;exact e
def Dm.row(h:aN!)(hd:V.dm b x):Hk t M nT! nU_ nV! ji_/\(ji_).length<=B:=by obtain⟨_,e,rfl⟩:=h.ty ji! hd;obtain⟨_,e1,l1,kf,ef,rfl,K⟩:=h.ty dA_ hd;obtain⟨_,e2,l2,kp,ep,rfl,K2⟩:=h.ty dB! hd;exact⟨⟨e,⟨kf,ef,kp,ep,e1,e2,K,K2⟩,λz=>by have:=h.inj dA_ dB! hd hd z;cases this⟩,l1⟩
nonrec def Ix.sl(V:Ix)(x:D)(b:Bool)(l:b!):Ix:={V with ls:=λy c=>if y=x/\c=b then l else V.ls y c}
def vA:(V.sl x b l).ls x b=l:=HC aI_
def Dm.sl(h:aN!)(hB:cR_)(hd:V.dm b x)(hr:Hk t M' nT! nU_ nV! xs)(fr:∀a,a≠ad dA_->a≠ad dB!->M' a=M a)(hl:g!<=B'):Dm t M' ad (V.sl x b xs) B'/\∀a,¬Uj ad V a->M' a=M a:=by
 obtain⟨kf,ef,kp,ep,hf,hp,K,Kp⟩:=hr.dc;refine⟨h.go hB q! h.inj λr l=>?_,λa ha=>fr a (λz=>ha ⟨.fol x b,hd,z.symm⟩) λz=>ha ⟨.pre x b,hd,z.symm⟩⟩;have l':Ii V r:=l;by_cases e1:r=.fol x b
 .subst e1;exact .inl ⟨_,hf,by rw[vA];exact hl,kf,ef,rfl,by rw[vA];exact K⟩
 by_cases e2:r=.pre x b
 .subst e2;exact .inl ⟨_,hp,by rw[vA];simpa using hl,kp,ep,rfl,by rw[vA];exact Kp⟩
 refine .inr ⟨l',fr _ (λz=>e1 xF_) (λz=>e2 xF_),?_⟩;cases r with
 |fol y c=>exact HA λz=>e1 dB_
 |pre y c=>exact HA λz=>e2 dB_
 |_=>rfl
def Iy(W:OW):Ix where
 pr:=λi p=>cQ_∈W.rows
 dm:=λb x=>match b with|true=>Jr W x|false=>x∈W.its
 nd:=λx=>x∈W.its
 ls:=λx b=>match b with|true=>Hg W.rows x|false=>(dy_).map c_
 wr:=λs v=>∃x∈W.its,∃q∈W.txt x,q.1=s/\q.2.1=v
 hi:=λs=>∃x∈W.its,∃q∈W.txt x,q.1=s/\q.2.2=false
 nu:=W.num
def Bo(t:Bl)(M:Mh)(o:yz!)(O:bg_)(W:OW)(B:Nat):Prop:=∃ad,ad .ob=o/\(∀b,O b↔Uj ad a1_ b)/\Dm t M ad a1_ B
def Fr(M:Mh)(O:bg_)(M':Mh)(O':bg_):Prop:=∀b,M b≠none->¬O b->M' b=M b/\¬O' b
def Fr.refl:Fr M O M O:=λb _ h=>eN_
def Fr.trans{M2:Mh}(Y:Fr M O M' O1)(h2:Fr M' O1 M2 O2):Fr M O M2 O2:=λb hb hr=>by
 obtain⟨e1,e2⟩:=Y b hb hr;obtain⟨e3,e4⟩:=h2 b xG_ e2;exact⟨e3.trans e1,e4⟩
def Bo.mono(h:aN_)(hB:cR_):Bo t M o O W B':=by obtain⟨ad,e,hO,hI⟩:=h;exact⟨ad,e,hO,hI.cv hB λr l=>⟨l,Sm.rfl⟩⟩
def Bo.live(h:aN_)(hb:O b):M b≠none:=by obtain⟨ad,e,hO,hI⟩:=h;obtain⟨r,l,rfl⟩:=(hO b).mp hb;obtain⟨c,e,_⟩:=hI.ty r l;rw[e];simp
def Bo.keep(h:aN_)(k:∀c,O c->M' c=M c):Bo t M' o O W B:=by obtain⟨ad,e,hO,hI⟩:=h;exact⟨ad,e,hO,hI.go u! q! hI.inj λr l=>.inr ⟨l,k _ ((hO _).mpr ⟨r,l,rfl⟩),Sm.rfl⟩⟩
def zB(w:Ek W)(h:Jr W x):∃k,De x=some k:=by
 obtain h|rfl|rfl:=h
 .exact(w.nm x h).key
 .exact I_
 .exact I_
def Dm.noOb(h:aN!)(hm:xI!):Dh t.B6 m M jk_:=by simp[Dh,h.ob,hm]
def Bo.noOb(h:aN_)(hm:xI!):Dh t.B6 m M a2!:=by obtain⟨ad,rfl,hO,hI⟩:=h;exact hI.noOb hm
def Dm.dirV(h:aN!):∃k e,M (ad gt!)=some (.dct k e)/\i3_<=B/\∀x,nT_/\nU!:=by obtain⟨_,e,k,ep,rfl,q⟩:=h.ty gt! trivial;exact⟨k,ep,e,q⟩
def a2o(h:∀x,nT_/\nU!):(kget k x).isSome=decide (V.dm b x):=by
 by_cases z:V.dm b x
 .rw[(h x).1 z,HF z];rfl
 .rw[(h x).2 z,HB z];rfl
def a5d(h:aN_)(hk:gO_)(hR:R (.bl (decide (Jr W x))) M):Cb t [ax!,x] M R:=by obtain⟨ad,rfl,hO,hI⟩:=h;obtain⟨k2,e2,h2,_,q⟩:=hI.dirV (b:=true);have e3:=a2o (x:=x) q;refine p!;rw[show decide (Jr W x)=(kget k2 x).isSome from e3.symm]at hR;simpa[Ko,Bg,w2,wl,An,Ic,Du,fVar,hI.ob,oF2,Kz,h2,hk]using hR
def iK(h:aN_)(hk:gO_)(hR:R (.bl (decide (x∈W.its))) M):Bx t [ax!,x] M R:=by obtain⟨ad,rfl,hO,hI⟩:=h;obtain⟨k2,e2,h2,_,q⟩:=hI.dirV (b:=false);have e3:=a2o (x:=x) q;refine p!;rw[show decide (x∈W.its)=(kget k2 x).isSome from by rw[e3];congr]at hR;simpa[Gr,Bg,w2,wl,An,Ic,Du,fVar,hI.ob,oF3,Kz,h2,hk]using hR
def Dm.numV(h:aN!)(hx:V.nd x):∃k e,M (ad .nums)=some (.dct k e)/\kget k x=some xw_/\M (ad gr_)=some (.lst (V.nu x)):=by obtain⟨_,e,k,ep,rfl,_,q⟩:=h.ty .nums trivial;obtain⟨_,e2,rfl⟩:=h.ty gr_ hx;exact⟨k,ep,e,q x hx,e2⟩
end
end K12
namespace K12
open PySem L2 DL
def wF:∀(xs ys:v_),Fq (xs.map D.int) (ys.map D.int)=(xs==ys)
 |[],[]=>by simp[Fq]
 |[],y::ys=>by simp[Fq]
 |x::xs,[]=>by simp[Fq]
 |x::xs,y::ys=>by simp[Fq,eqD,wF xs ys]
def Sd(d:D):Prop:=d=.non\/(∃x,d=.str x)\/(∃i,d=.int i)\/∃ns:List Int,d=.tup iG!
def a2b:∀{xs ys:v_},xs.map D.int=ys.map D.int->xs=ys
 |[],[],_=>rfl
 |[],_::_,h=>by simp at h
 |_::_,[],h=>by simp at h
 |x::xs,y::ys,h=>by
  simp only[HD,OP,D.int.injEq]at h;rw[h.1,a2b h.2]
def b6a(hx:Sd x)(hy:Sd y):eqD x y=(open Classical in decide d8!):=by
 obtain rfl|⟨a,rfl⟩|⟨i,rfl⟩|⟨ns,rfl⟩:=hx<;>obtain rfl|⟨b,rfl⟩|⟨j,rfl⟩|⟨ms,rfl⟩:=hy<;>simp[eqD,wF]
 all_goals
  rw[JH]
  first
   |(simp only[JC,HS,D.tup.injEq];exact⟨λz=>by rw[z],a2b⟩)
   |(simp only[JC,HS])
   |simp
def vS:∀(ns:v_),Bt ox!=true
 |[]=>by simp[Bt]
 |n::ns=>by simp[Bt,Aw,vS ns]
def qS(h:Sd x):Aw x=true:=by obtain rfl|⟨a,rfl⟩|⟨i,rfl⟩|⟨ns,rfl⟩:=h<;>simp[Aw,vS]
def a2s:∀(ns:v_),Dt ox!<=1
 |[]=>by simp[Dt]
 |n::ns=>by have:=a2s ns;simp[Dt,dep];omega
def b6m(h:Sd x):dep x<=5:=by
 obtain rfl|⟨a,rfl⟩|⟨i,rfl⟩|⟨ns,rfl⟩:=h<;>simp[dep]
 have:=a2s ns;omega
def Ig.sd(h:Ig x):Sd x:=by obtain⟨a,b,rfl⟩:=h;exact .inr (.inr (.inr ⟨aJ!,rfl⟩))
def wZ(x:Str):Sd b2_:=.inr (.inl ⟨x,rfl⟩)
def c5j(w:Ek W)(h:Jr W x):Sd x:=by
 obtain h|rfl|rfl:=h
 .exact(w.nm x h).sd
 .exact wZ _
 .exact wZ _
def c4l(hx:Sd x)(hy:Sd y):Ed x y=some (.bl (!(open Classical in decide d8!))):=by unfold Ed;have:=b6m hx;rw[qS hx,qS hy,b6a hx hy];rw[HC cA!]
def c0n(hx:Sd x)(hy:Sd y):eqD' x y=some (.bl (open Classical in decide d8!)):=by unfold eqD';have:=b6m hx;rw[qS hx,qS hy,b6a hx hy];rw[HC cA!]
section
def sT(hR:∀r f p M',M r=none->M f=none->M p=none->r≠f->r≠p->Hk t M' r f p []->f≠p->(∀b,b≠r->b≠f->b≠p->M' b=M b)->R i7_ M'):Fx t.B7 1 (Fd t) Ac ρ M R:=by
 refine⟨rfl,λr hr=>p!⟩;have nf:∀{f:yz!},mup M r (.obj t.B7 []) f=none->f≠r/\M f=none:=λ{f} z=>by
  by_cases e:f=r
  .rw[e,mup_same]at z;cases z
  .rw[mup_ne e]at z;exact⟨e,z⟩
 intro f hf;obtain⟨f1,f2⟩:=nf hf;refine⟨mup_same,Q_,by simp[De],R_,?_⟩;simp[wl,fVar,mup_ne,mup_same,IA f1,Gu];intro p hp;have p1:p≠r:=λe=>by rw[e,mup_same]at hp;cases hp
 rw[n0!]at hp;have p2:p≠f:=λe=>by rw[e,mup_same]at hp;cases hp
 rw[mup_ne p2,mup_ne p2,n0!]at hp;simp[Hl,Pf,wl,fC,fVar,mup_ne,mup_same,IA f1,IA p1,Gu,De];have hne:¬(Str.ofString "following"=Str.ofString "preceding"):=by decide+kernel
 refine hR r f p _ hr f2 hp (IA f1) (IA p1) ⟨mup_same,⟨nF_,1,nF_,1,?_,?_,a0k,a0k⟩,IA p2⟩ (IA p2) λb Y h2 h3=>?_
 .rw[mup_ne f1,xM!,xM!,mup_ne f1,mup_same]
 .rw[n0!,mup_same]
 .rw[eQ!,mup_ne h3,mup_ne h3,eQ!,jl_,jl_,eQ!]
end
end K12
namespace K12
open PySem L2 DL
open Classical
section
def b1y(w:Ek W)(h:x∈W.its):∃p,eK_∈W.rows:=by obtain⟨⟨a,p⟩,hq,rfl⟩:=HI.mp ((w.ri x).mpr h);exact⟨p,hq⟩
def oY(w:Ek W)(h:x∉W.its):∀p,eK_∉W.rows:=λp z=>h ((w.ri x).mp w1!)
def b8c(w:Ek W):root∉W.its:=λz=>(w.nm _ z).nn.2.1 rfl
def c6q(w:Ek W):Db∉W.its:=λz=>(w.nm _ z).nn.2.2 rfl
def c7m(h:Ig x\/x=root\/x=Db):x≠.non:=by
 obtain h|rfl|rfl:=h
 .exact h.nn.1
 .intro z;cases z
 .intro z;cases z
def c5k(w:Ek W)(h:Jr W x):x≠.non:=c7m (h.imp_left (w.nm x))
def pP(h:Dm t M ad a1_ B)(w:Ek W)(hi:Ig i){rk:D->Nat}(nq:∀a p,(a,p)∈W.rows->rk p<rk a):
  ∀(n:Nat) (x:D),rk x<n->Jr W x->∀(R':j!),(Wn W.rows i x->R' (.nx [eQ_,aA_,aA_]) M)->(¬Wn W.rows i x->R' (.nx [eQ_,some .non,aA_]) M)->
   ∃m,Er fW! fW_ m n1_ M R'
 |0,x,hn,_,_,_,_=>by omega
 |n+1,x,hn,hx,R',r1,r2=>by
  obtain⟨_,Y,k1,e1,rfl,_,p0,p1,pr⟩:=h.ty .par trivial;have x0:=c5k w hx;have ne:=c4l (c5j w hx) hi.sd;by_cases e:x=i
  .subst e;have:=r1 .here;refine⟨1,?_⟩;simpa[Er,Dg,fAnd,fT,f2,fVar,fC,Am,nS x0,ne]using this
  .have st:∀(p:D) (m:Nat),kget k1 x=some p->Er fW! fW_ m [eQ_,some p,aA_] M R'->
     Er fW! fW_ (m+1) n1_ M R':=λp m hp hw=>by
    obtain⟨k,hk⟩:=zB w hx;rw[Er];simpa[Dg,fAnd,fT,f2,fVar,fC,Am,nS x0,ne,e,Ai,w2,wl,An,Ic,Du,h.ob,oF1,Do,Y,hk,hp]using hw
   have top:kget k1 x=some .non->(∀p,eK_∉W.rows)->∃m,Er fW! fW_ m n1_ M R':=λhp hr=>by
    have:=r2 (c2u hr e);refine⟨1+1,st .non 1 hp ?_⟩;simpa[Er,Dg,fAnd,fT,f2,fVar,fC,Am,Bv]using this
   obtain hx|rfl|rfl:=hx
   .obtain⟨p,hp⟩:=b1y w hx;have q:=b1c w.rnd hp e;have:=nq _ _ hp;obtain⟨m,hm⟩:=pP h w hi nq n p a! (w.rp _ _ hp) R' (λz=>r1 (q.mpr z)) (λz=>r2 λy=>z (q.mp y));exact⟨m+1,st p m (pr _ _ hp) hm⟩
   .exact top p0 (oY w (b8c w))
   .exact top p1 (oY w (c6q w))
def zA(h:aN_)(w:Ek W)(hx:Jr W x)(hi:Ig i)(hR:R (.bl (decide (Wn W.rows i x))) M):Ej t [ax!,x,i] M R:=by
 obtain⟨ad,rfl,hO,h⟩:=h;obtain⟨rk,nq⟩:=w.rk;obtain⟨m,hm⟩:=pP h w hi nq (rk x+1) x a! hx (λr M1=>match r with|.nx aj=>Bg ml_ aj M1 jn!|.rt d=>R d M1)
  (λz=>by simp only[z,PU]at hR;simpa[Bg,wl,f2,fVar,fC,Am,nS hi.nn.1]using hR)
  (λz=>by simp only[z,RK]at hR;simpa[Bg,wl,f2,fVar,fC,Am,Bv]using hR)
 refine p!;exact⟨m,hm⟩
def a3a(h:aN_)(w:Ek W)(dh:gv!)(hkx:xS!)(hR:∀b:Bool,(b=true↔jn_)->R aI! M):Di t [ax!,i,x] M R:=by
 refine p!;simp only[Gs,Bg,Km,wT,Az,wl,Aa,Ac,fVar];show"#?"
 .simp only[c1,PU,JN];refine⟨h.noOb oM1,?_⟩;refine a5d h hkx ?_;by_cases c2:Jr W x
  .simp only[c2,PU,JN,Ux,wT,Az,wl,Aa,Ac,fVar];refine⟨h.noOb cS!,rfl,?_⟩;refine zA h w c2 (w.nm i c1) ?_;exact hR _ (by simp[c1,c2])
  .simp only[c2,RK];exact hR _ (by simp[c2])
 .simp only[c1,RK];exact hR _ (by simp[c1])
def uB(h:aN_)(w:Ek W)(dh:gv!)(p0:0<=p)(p3:p<=3)
  (hR:∀M',Bo t M' o O (if i∈W.its then Wz W i n3_ else W) B->Fr M O M' O->R .non M'):Ea t [ax!,i,.int p,aD_] M R:=by
 refine p!;refine⟨n2_,rfl,iK h dh ?_⟩;by_cases c1:i∈W.its
 .simp only[c1,JN]at hR;obtain⟨ad,rfl,hO,hI⟩:=h;obtain⟨k4,e4,h4,e,hq⟩:=hI.numV (x:=i) c1;have hq:M xT!=some (.lst n3!):=hq;have hx:Eh (n3!).length p=some p.toNat:=by
   rw[w.nl i c1];unfold Eh;rw[HC p0,by_]
  have ag:R .non (mup M xT! (.lst n3_)):=by
   refine hR _ ⟨ad,rfl,hO,hI.up (V':=Iy (Wz W i n3_)) u! (r0:=.nm i) c1 (by show _=Jy.lst (if _ then _ else _);rw[A!]) λr hn l=>n4!⟩ λb _ hr=>⟨rP (V:=Iy W) (r0:=.nm i) c1 λz=>hr jo!,hr⟩;cases r with
   |nm y=>exact HA λz=>hn (by rw[z])
   |_=>rfl
  simpa[c1,Cg,w2,wl,An,Ic,Du,fVar,hI.ob,oF4,Do,h4,dh,e,Kx,hq,hx]using ag
 .simp only[c1,IU]at hR;have:=hR M h .refl;simpa[c1,Bm]using this
end
end K12
namespace K12
open PySem L2 DL
open Classical
open Classical
section
variable{t:Bl}{o:yz!}{O:Addr->Prop}
def kX(i:D):setT W i cT!=W:=by
 unfold setT;cases W with
 |mk a b c d=>
  congr 1;funext x;split
  .rename_i e;rw[e]
  .rfl
nonrec def cutT(Z6:b!)(l:bf_):List eK!:=l.map λq=>(q.1,q.2.1,q.2.2&&!decide (q.1∈Z6))
def b6s(l:bf_):cutT [] l=l:=by unfold cutT;simp
def jO(g:b!)(l:bf_):(cutT g l).map c_=l.map c_:=by unfold cutT;simp
def b6t(g:b!)(s:D)(l:bf_):cutT [s] (cutT g l)=cutT (g++[s]) l:=by unfold cutT;rw[JJ];apply QT;intro q _;simp only[Function.comp,GS];congr 2;rw[Bool.and_assoc];congr 1;by_cases Y:q.1∈g<;>by_cases h2:q.1∈[s]<;>simp[Y,h2]
def c1j(h:s∉l.map c_):cutT [s] l=l:=by
 conv=>rhs;rw[<-PY l]
 apply QT;intro q hq;have:q.1≠s:=λz=>h nK_;simp[this]
def b0r(w:Ek W)(hi:dz_)(g:b!):Ek gw!:=by
 refine oM w hi (by rw[jO];exact w.snd i hi) gw_ n4_
 .show"!Y";exact w.sg i hi q0 h0
 .show"!Y";exact(w.su i hi y hy q0 h0 q' bg e).symm
def vC(i:D)(l l':bf_):setT gx! i l'=setT W i l':=by unfold setT;congr 1;funext x;dsimp only;split<;>rfl
def qL(i:D)(l:bf_):(gx!).txt i=l:=by simp[setT]
def pI{P:eR!}(hi:dz_):(∃x∈W.its,∃q∈(gx!).txt x,P q)↔(∃q∈l,P q)\/∃x∈W.its,x≠i/\∃q∈W.txt x,P q:=by
 show"!|"
 .rintro⟨x,hx,q,hq,h⟩;have hq:q∈xU_:=hq;split at hq
  .exact .inl ⟨q,hq,h⟩
  .rename_i c;exact .inr ⟨x,hx,c,q,hq,h⟩
 .rintro(⟨q,hq,h⟩|⟨x,hx,c,q,hq,h⟩)
  .exact⟨i,hi,q,by rw[qL];exact hq,h⟩
  .exact⟨x,hx,q,by show q∈xU_;rw[HA c];exact hq,h⟩
def zJ{P:eR!}:(∃q∈cutT g l,P q)↔∃q∈l,P (q.1,q.2.1,q.2.2&&!decide (q.1∈g)):=
 ⟨λ⟨q,hq,h⟩=>by obtain⟨q0,h0,rfl⟩:=HI.mp hq;exact⟨q0,h0,h⟩,λ⟨q,hq,h⟩=>⟨_,HH hq,h⟩⟩
def c3d(hi:dz_)(hn:l'.map c_=l.map c_)(hw:∀s v,(∃q∈l',q.1=s/\q.2.1=v)↔∃q∈l,q.1=s/\q.2.1=v)(h:r≠.hid):Sm (Iy gx!) xX_ r:=by
 have ls:∀(y:D) (b:Bool),(xX_).ls y b=(Iy gx!).ls y b:=λy b=>by
  cases b with
  |true=>rfl
  |false=>
   show(if y=i then l' else W.txt y).map c_=(if y=i then l else W.txt y).map c_;split
   .exact hn
   .rfl
 cases r with
 |hid=>exact absurd rfl h
 |wri=>exact funext λs=>funext λv=>propext ((pI hi).trans (Iff.trans (by rw[hw]) (pI hi).symm))
 |fol y b=>exact ls y b
 |pre y b=>exact ls y b
 |_=>rfl
abbrev BL(t:Bl):WS:=(Ad tV_
 tX!)
def a2v{x y z m:Int}(hi:dz_)(w:Ek W):∀(js:v_) (M:Mh) (g:b!) (B:Nat) (ph zr:R!) (R:j!),B+js.length<4000->Bo t M o O gw! B->
  (∀M' ρ,Bo t M' o O (setT W i (cutT (g++js.map λj=>.tup gy!) cT!)) (B+js.length)->Fr M O M' O->R Z_ M')->
  El ad! W! (BL t) (js.map .int) [aa!,aA_,some gy_,eS!,ph,zr] M R
 |[],M,g,B,ph,zr,R,hB,h,hR=>⟨trivial,hR M _ jq! .refl⟩
 |j::js,M,g,B,ph,zr,R,hB,h,hR=>by
  refine aE!;obtain⟨ki,dh⟩:=(jr_).key;obtain⟨ad,eo,hO,hI⟩:=h;have ob:=hI.ob;rw[eo]at ob;obtain⟨k3,e3,h3,_,g1⟩:=hI.dirV (b:=false);have g1:=(g1 i).1 hi;have g2:Hk t M _ _ _ (((gw!).txt i).map c_):=(n7_).1;obtain⟨_,h6,k6,e6,rfl,l6',Z7⟩:=hI.ty .hid trivial;have l6:k6.length<big:=by unfold big;simp at hB;omega
  simp only[HJ]at hB hR;have px:Ag xZ! (.tup [d6!])=some gA!:=by simp[Ag,big]
  have zt:Ay gy_ none (some 2)=some xZ!:=by simp[Ay,Cf,HT.sIx]
  simp[Du,Bd,Ad,Ai,wl,f2,Dj,fVar,Al,Ak,fC,Au,aCons,aNil,zt,px,At,wT,Az,DL.w2,An,Ic,ob,oF3,Do,h3,dh,g1,Dh,g2.ob,Aa,Ac,rM,-List.lookup_eq_none_iff];refine a2f g2 f9_ ?_;have rc:=λM1 h h2 h3=>a2v (x:=x) (y:=y) (z:=z) (m:=m) hi w js M1 x0! dD_ eS_ (some gA!) R h h2 h3;by_cases c:D.tup gy!∈((gw!).txt i).map c_
  .simp only[c,PU,JN];have q1:Bo t x0_ o O x1_ dD_:=by
    rw[qL,jO]at c;refine⟨ad,eo,hO,hI.up eT! (r0:=.hid) trivial ⟨_,_,rfl,jv!,λa=>?_⟩ λr hn l=>⟨l,c3d hi (by rw[jO,jO]) (λs v=>by rw[zJ,zJ]) hn⟩⟩;have h0:=(Z7 a).trans (pI hi);refine Iff.trans ?_ (pI (W:=W) hi).symm;rw[iS];by_cases e:a=.tup gy!
    .obtain⟨q,hq,e2⟩:=HI.mp c;rw[HC e];exact⟨λ_=>.inl ⟨_,HH hq,e2.trans e.symm,by simp[e2]⟩,bF!⟩
    .rw[HA e,h0];refine or_congr ?_ Iff.rfl;rw[zJ,zJ];refine exists_congr λq=>and_congr_right λ_=>and_congr_right λe2=>?_;have e2:q.1=a:=e2;simp[e2,e]
   have q2:Fr M O x0_ O:=λb _ hr=>⟨rP (V:=Iy gw!) (r0:=.hid) trivial λz=>hr jo!,hr⟩;have:=rc _ a! q1 (λM' ρ h' f'=>hR M' ρ x3_ x4_);simpa[Cg,wl,An,Ic,Du,fVar,fC,ob,oF6,Kx,h6,show De gA!=some _ from rfl,l6]using this
  .simp only[c,RK];have q1:Bo t M o O x1_ dD_:=by
    rw[<-b6t,c1j (by rw[qL]at c;exact c)];exact Bo.mono ⟨ad,eo,hO,hI⟩ eT!
   have:=rc _ a! q1 (λM' ρ h' f'=>hR M' ρ x3_ f');simpa[Bm]using this
def c6h(h:aN_)(w:Ek W)(dh:gv!)(hB:gB_)(z0:0<=z)(m1:1<=m)(m16:z+m<=16)
  (hR:∀M',Bo t M' o O (if i∈W.its then setT W i (cutT ((x6!).map λk=>.tup n9_) cT!)else W) cU_->Fr M O M' O->R .non M'):
  Hs t [ax!,i,.tup jp_,cV!] M R:=by
 refine p!;simp only[Kq,Ad,At,Mt,wT,Az,wl,Aa,Ac,fVar];show"#?"
 .simp only[c1,JN]at hR;have hr:Qh fX_ tU! [aa!,aA_,some gy_,eS!,none,none]=some ((x9_).map D.int):=by
   have e1:ixD gy_ cD_=some (.int z):=rfl;have e2:(z+m - z).toNat=m.toNat:=by congr 1;omega
   have b:-1000<=z/\z<=100000/\-1000<=z+m/\z+m<=100000:=by omega
   simp[Qh,f2,fVar,fC,e1,Ag,b,e2,Py,Function.comp]
  have:=a2v (x:=x) (y:=y) (z:=z) (m:=m) c1 w x9_ M [] B none none jn! cA! (by rw[b6s,kX];exact h) (λM' ρ h2 f2=>hR M' (by
   simp only[JY,JJ,GY,LN]at h2;exact h2.mono a!) f2)
  simp only[c1,PU,KM,HX,IU,Bm,Bs,Hc,Du,hr];show"#-"
 .simp only[c1,IU]at hR;have:=hR M (h.mono a!) .refl;simpa[c1,Mp]using this
end
end K12
namespace K12
open PySem L2 DL
open Classical
section
def ET(dq:D)(U l:bf_):Prop:=(U=[]/\dq∉l.map c_)\/∃u' q,U=u'++[q]/\q.1=dq/\dq∉u'.map c_
def ET.names(h:ET dq U (U++v)):Lk s dq ((U++v).map c_)=(jv_).map c_:=by
 obtain⟨rfl,h⟩|⟨u',q,rfl,e,h⟩:=h
 .unfold Lk;rw[HA h];simp
 .unfold Lk;rw[HC wQ_];simp only[HZ,HD,LZ,IY,LW,JY];rw[e,jH h]
def a3f(w:Ek W)(hi:dz_)(hl:yb!)(hs:Rt s)(hf:yb_):Ek jw!:=by
 have fi:=hf i hi;rw[hl]at fi;have p:(jv_).Perm (gC!::(U++v)):=OM;refine oM w hi ?_ gw_ n4_
 .rw[(p.map _).nodup_iff,HD,HR];exact⟨fi,by rw[<-hl];exact w.snd i hi⟩
 .obtain rfl|z:=GT.mp yc!
  .exact hs
  .exact w.sg i hi q yc_
 .obtain rfl|z:=GT.mp yc!
  .exact absurd (HI.mpr ⟨q',bg,e.symm⟩) (hf y hy)
  .exact(w.su i hi y hy q yc_ q' bg e).symm
def b0z(hI:Dm t M ad yd_ B)(hk:∀a v,(a1_).wr a v->kget k5 a=some v)(h5:k5.length<B)(hi:dz_)(hl:yb!)(hb:l=(jv_).map c_)(hf:yb_):
  Dm t (mup M nS_ (.dct (Bq k5 s c) e5)) ad (Iy jw!) B:=by
 have hm:∀{P:eR!},(∃q∈U++gC!::v,P q)↔P gC!\/∃q∈W.txt i,P q:=λ{P}=>by
  rw[hl];simp only[GS,GT];show"!|"
  .rintro⟨q,z|z|z,h⟩
   .exact .inr ye_
   .exact .inl (z▸h)
   .exact .inr ⟨q,.inr z,h⟩
  .rintro(h|⟨q,z|z,h⟩)
   .exact⟨_,ob!,h⟩
   .exact ye_
   .exact⟨q,.inr du_,h⟩
 have hx:∀{P:eR!},(∃x∈W.its,∃q∈(jw!).txt x,P q)↔P gC!\/∃x∈W.its,∃q∈W.txt x,P q:=λ{P}=>by
  have h0:=pI (W:=W) (l:=W.txt i) (P:=P) hi;rw[kX]at h0;rw[pI hi,hm,h0,or_assoc]
 refine hI.up u! (r0:=.wri) trivial ⟨_,_,rfl,IL gp_ h5,λa w hw=>?_⟩ λr hn l'=>⟨l',?_⟩
 .rw[iS];obtain⟨rfl,rfl⟩|z:=hx.mp hw
  .rw[A!]
  .obtain⟨x,hx,q,hq,e,_⟩:=id z;rw[HA λy=>hf x hx (by rw[<-y,<-e];exact HH hq)];exact hk a w z
 .have ls:∀(y:D) (b:Bool),(Iy jw!).ls y b=(yd_).ls y b:=λy b=>by
   cases b with
   |true=>exact(HA λz=>by cases z.2).symm
   |false=>
    show(if y=i then _ else W.txt y).map c_=if y=i/\false=false then l else(W.txt y).map c_
    by_cases z:y=i
    .rw[HC z,HC ⟨z,rfl⟩,hb]
    .rw[HA z,HA λy=>z y.1]
  cases r with
  |wri=>exact absurd rfl hn
  |hid=>exact funext λa=>propext (Iff.trans (hx (P:=λq=>q.1=a/\q.2.2=false)) ⟨λz=>z.resolve_left λy=>Bool.noConfusion y.2,λz=>.inr z⟩)
  |fol y b=>exact ls y b
  |pre y b=>exact ls y b
  |_=>rfl
end
section
variable{t:Bl}{o:yz!}{O:Addr->Prop}
def EU(t:Bl):WS:=(Ad mw_
 (Ad tR!
 (Ad tS!
 (Ai 5 em!))))
nonrec def sgn(h n:Int)(q:Nat×Nat):D×D×Bool:=(.tup [af_,aD_,.int pk!],.str BK_,true)
nonrec def eN(q:Nat×Nat):D:=.tup BL_
def rK:∀(cs:l!) (k0:Nat) (M:Mh) (W:OW) (B:Nat) (U v:bf_) (dq:D) (ka:MK) (zu zw sx:R!) (R:j!),B+cV_<4000->Bo t M o O W B->Ek W->i∈W.its->W.txt i=U++v->ET dq U (U++v)->De dq=some ka->
  (∀x∈W.its,∀k':Nat,k0<=k'->D.tup yj!∉(dy_).map c_)->
  (∀M' ρ,Bo t M' o O yj_ (B+cV_)->Ek yj_->Fr M O M' O->R Z_ M')->
  El (Tr 6 7) W! (EU t) ((oc_).map eN) [aa!,jx_,aA_,cW!,some tx,some dq,zu,zw,sx] M R
 |[],k0,M,W,B,U,v,dq,ka,zu,zw,sx,R,hB,hO,w,hi,hl,hb,hk,hf,hR=>by
  refine⟨trivial,hR M _ ?_ ?_ .refl⟩
  .simp only[QG,LZ,IB,QH,Nat.add_zero];rw[<-hl,kX];exact hO
  .simp only[QG,LZ,IB];rw[<-hl,kX];exact w
 |c::cs,k0,M,W,B,U,v,dq,ka,zu,zw,sx,R,hB,hO,w,hi,hl,hb,hk,hf,hR=>by
  refine aE!;obtain⟨ki,dh⟩:=(jr_).key;obtain⟨ad,eo,hO,hI⟩:=hO;have ob:=hI.ob;rw[eo]at ob;obtain⟨k3,e3,h3,_,g1⟩:=hI.dirV (b:=false);have g1:=(g1 i).1 hi;have g2:Hk t M _ _ _ od_:=(n7_).1;have lt:(od_).length<=B:=(n7_).2;simp only[HJ]at hB hR;have hs:Rt bu_:=ym!;have wk:∀x∈W.its,D.tup jy!∉(dy_).map c_:=λx hx=>hf x hx k0 u!;have px:Ag yk! (.tup [ym_])=some bu_:=by simp[Ag,big]
  have hm:Dh t.B7 "put_behind" M yn!:=by simp only[Dh,g2.ob,rM.1,and_self]
  have hx:∀R',w2 Do fV_ M! of! M R'=R' yn! M:=by
   intro R';simp[w2,wl,An,Ic,ob,oF3,Do,h3,dh,g1,Du,fVar]
  show EU t of_ M _;show Ad mw_ _ of_ M _;have e8:f2 Ag C! (Au mw!) of_=some bu_:=by
   simp[f2,fVar,Au,aCons,aNil,px]
  simp only[Ad,Ai,wl,e8,List.set_cons_succ,List.set_cons_zero,Bb,Az,hx];refine⟨hm,rfl,?_⟩;refine iP g2 f9_ hk (by rw[GT,OV];exact⟨hs.nn,wk i hi⟩) a! λM1 hr fr=>?_;obtain⟨hJ,fj⟩:=hI.sl eT! (x:=i) (b:=false) hi hr fr (by obtain⟨u,v,e1,e2,_⟩:=lO bu_ dq od_;rw[e2];rw[e1]at lt;simp at lt ⊢;omega);obtain⟨_,h5,k5,e5,rfl,l5',Z8⟩:=hI.ty .wri trivial;have ne:∀{r:Sw},Ii a1_ r->r≠.fol i false->r≠.pre i false->M1 gs!=M gs!:=λl Y h2=>fr _ (λz=>Y yp!) λz=>h2 yp!;have Z9:=(ne (r:=.wri) trivial d_ d_).trans h5;have VH:=(ne (r:=.ob) trivial d_ d_).trans hI.ob;rw[eo]at VH;have l5:k5.length<big:=by unfold big;omega
  have q1:=b0z (c:=ep!) (e5:=Kr k5 bu_ e5) hJ Z8 a! hi hl (by rw[hl];exact hb.names) wk;have q2:Fr M O yp_ O:=λb _ hr=>⟨(rP (V:=Iy W) (r0:=.wri) trivial λz=>hr jo!).trans (fj b λz=>hr jo!),hr⟩;have q3:=a3f (c:=ep!) w hi hl hs wk;have hU:U++yq!::v=(U++[yq!])++v:=by simp
  have rc:=λka M2 Y h2 h3 h4 h5 h6 h7 h8 h9=>rK (i:=i) (b:=b) (tx:=tx) (h:=h) (n:=n) cs (k0+1) M2 yr! dD_ (U++[og!]) v bu_ ka (some oe!) (some f0!) (some bu_) R Y h2 h3 h4 h5 h6 h7 h8 h9;have:=rc _ _
   (a!) ⟨ad,eo,hO,q1⟩ q3 hi (by rw[qL,hU]) (.inr ⟨U,_,rfl,rfl,λz=>wk i hi yr_⟩) f9_
   (λx hx k' d8 z=>by
    have tx:(yr!).txt x=if x=i then U++og!::v else W.txt x:=rfl
    rw[tx]at z;by_cases y:x=i
    .subst y;rw[A!]at z;simp only[HZ,HD,GS,GT]at z;obtain z|z|z:=z
     .exact hf x hi k' a! yr_
     .simp at z;omega
     .exact hf x hi k' a! (by rw[hl,HZ];exact GV _ z)
    .rw[HA y]at z;exact hf x hx k' a! z)
   (λM' ρ Y h2 f'=>hR M' ρ (by
    rw[vC]at Y;rw[show B+(cs.length+1)=B+1+cs.length by omega,QC];simpa[sgn]using Y) (by
    rw[vC]at h2;simpa[sgn]using h2) x4_)
  have hp:∀R',Cg tR_ em! (wl aK_) of! M1 R'=R' (.nx of!) yp_:=by
   intro R';simp[Cg,wl,An,Ic,Du,fVar,fC,VH,oF5,Kx,Z9,show De bu_=some _ from rfl,l5]
  simp only[hp];show"#-"
def b1b(hO:aN_)(w:Ek W)(dh:gv!)(zx:yt_)(hB:gB_)(hs:aO_<=16)
  (hf:∀x∈W.its,∀k':Nat,D.tup yj!∉(dy_).map c_)
  (hR:∀M',Bo t M' o O yu_ cU_->Ek yu_->Fr M O M' O->R .non M'):
  Ge t [ax!,.tup od!,i,b,eU_] M R:=by
 refine p!;simp only[Iq,Ad,At,Mt,wT,Az,wl,Aa,Ac,fVar];simp[hO.noOb oM2];refine iK hO dh ?_;by_cases c1:i∈W.its
 .simp only[c1,JN]at hR;obtain⟨U,v,e1,e2,e3⟩:=uT b yu! cT!;have hl:yv!<=16:=by simpa[Str.length]using hs
  have hi:Qi az_ [aa!,jx_,aA_,cW!,some bS_,cW!,none,none,none]=some (s.cps.toList.zipIdx.map eN):=by
   simp[Qi,fVar,eN]
  have:=rK (t:=t) (o:=o) (O:=O) (b:=b) (tx:=eU_) (h:=h) (n:=n) s.cps.toList 0 M W B U v b kb none none none jn! a! hO w c1 e1 (by rw[<-e1];exact e3) zx (λx hx k' _=>hf x hx k')
   (λM' ρ Y h2 f'=>hR M' (by rw[<-e2]at Y;exact Y.mono a!) (by rw[<-e2]at h2;exact h2) f')
  simp only[c1,PU,KM,HX,IU,Bm,Ai,wl,Bs,Hc,Du];show"#-"
 .simp only[c1,IU]at hR;have:=hR M oh_ w .refl;simpa[c1,Mp]using this
end
def cZ{N:Mh}(hb:N b≠none)(hq:N q=none):b≠q:=λz=>hb (by rw[z];exact hq)
section
def b7y(h:f ρ M λv M1=>fo ρ M1 λd M2=>fi ρ M2 λy M3=>Du o8! λM4=>q ρ M4 R):Ad Bg! q ρ M R:=by exact h
def a0i(h:yx_):Ad (Bb f) q ρ M R:=h
def sC{Q:dL!}(h0:yz_)(Y:eJ!)(hM:M o=some oi!)(hx:fs.lookup x=some z_)(hp:bT!)(hk:a3!)(hl:cp_)
  (hQ:Q gY!):An C x cm_ ρ M (λd M2=>wl fi ρ M2 λy M3=>Du o8! λM4=>Q M4):=by
 have e:Kx M z_ y v=some gY!:=by simp[Kx,hp,hk,hl]
 simp only[An,wl,h0,Ic,hM,JN,hx,Du,Y,e];exact hQ
def c8h{f1 f2:i_}(h0:∀K,fo ρ M K=K d M)(ho:kj_)(Y:gD_)(h2:jy_)(k:g [d,a,b] M K):Az C m 3 g fo oi_ ρ M K:=by unfold Az Aa Ac;rw[h0];simp only[wl,Y,h2];exact oj!
def AV(t:Bl):WS:=Ad tn!
 (Ad tI_
 (Ad tJ!
 (Ad tJ_
 tK_)))
end
section
variable{M M' M1:Mh}{V V':Ix}
def Dm.lv(h:aN!)(l:Ii V q):M (ad q)≠none:=by obtain⟨c,e,_⟩:=h.ty q l;rw[e];simp
def Dm.alloc{N:Sw->Prop}(h:aN!)(hB:cR_)(old:jj!)(cs:yB_)(nw:yC_)(ni:∀q q',N q->N q'->a9 q=a9 q'->q=q')
  (hd:∃c,M' (ad rd)=some c/\Ty t a9 V' B' c rd)(nt:∀q,N q->∃c,M' (a9 q)=some c/\Ty t a9 V' B' c q)(k:∀q,Ii V q->q≠rd->M' (ad q)=M (ad q)/\Sm V V' q)(lr:Ii V rd):Dm t M' a9 V' B':=by
 refine h.go hB old (λq q' l l' e=>?_) λq l=>?_
 .obtain l|l:=cs q l<;>obtain l'|l':=cs q' l'
  .rw[old q l,old q' l']at e;exact h.inj q q' l l' e
  .rw[old q l]at e;exact absurd (e▸nw q' l') (h.lv l)
  .rw[old q' l']at e;exact absurd yE! (h.lv l')
  .exact ni q q' l l' e
 .obtain l|l:=cs q l
  .by_cases e:q=rd
   .subst e;rw[old q l];exact .inl hd
   .exact .inr ⟨l,k q l e⟩
  .exact .inl (nt q l)
def a6t{N:Sw->Prop}(lr:Ii V rd)(old:jj!)(cs:yB_)(nw:yC_)(k:∀a,M a≠none->a≠ad rd->M' a=M a):Fr M oj_ M' (Uj a9 V'):=λa ha hn=>by
 refine⟨k a ha λz=>hn ⟨rd,lr,z.symm⟩,λ⟨q,l,e⟩=>?_⟩;obtain l|l:=cs q l
 .exact hn ⟨q,l,by rw[<-old q l];exact e⟩
 .exact ha yE!
nonrec def Ix.nw(V:Ix)(x:D)(b:Bool):Ix:={V.sl x b []with dm:=λc y=>V.dm c y\/(c=b/\y=x)}
def vT(h:aN!)(hx:¬V.dm b x)(hk:gO_)(hB:B<3990)(hf:∀{a1 a2 a3 a4 a5 a6:yz!},(bu!).lookup f=some (.fn (match b with|true=>a2|false=>a3)))(e0:yH!)(e1:yH_)
  (hR:∀M' a9,a9 .ob=ad .ob->Fr M oj_ M' (Uj a9 ok!)->Dm t M' a9 ok! dD_->q ρ M' R):Ad (Cg (An t.B6 f i!) o_ fV!) q ρ M R:=by
 refine b7y (sT λr f p M1 z1 z2 z3 n1 n2 hr n3 fr=>?_);obtain⟨kd,ed,hd,ld,kv⟩:=h.dirV (b:=b);have m1:∀a,M a≠none->M1 a=M a:=λa ha=>fr a (cZ ha z1) (cZ ha z2) (cZ ha z3);have ob:=(yK_).trans h.ob;have Z':=(m1 _ jD_).trans hd;refine sC (p:=ad gt!) e0 e1 ob (hf.trans (by cases b<;>rfl)) Z' hk bf! ?_
 let a9:Sw->Addr:=λq=>if q=.row x b then r else if q=.fol x b then f else if q=.pre x b then p else ad q
 have a1:a9 ji!=r:=HC rfl;have a2:a9 dA_=f:=(HA d_).trans ok_;have a3:a9 dB!=p:=(HA d_).trans ((HA d_).trans ok_);have old:∀q,Ii V q->a9 q=ad q:=λq l=>(ol!).trans ((ol!).trans ol!);have cs:∀q,Ii ok! q->Ii V q\/yN_:=λq l=>by
  cases q with
  |row y c=>exact l.imp_right λz=>.inl dB_
  |fol y c=>exact l.imp_right λz=>.inr (.inl dB_)
  |pre y c=>exact l.imp_right λz=>.inr (.inr dB_)
  |_=>exact .inl l
 have nw:∀q,yN_->M (a9 q)=none:=by
  rintro q (rfl|rfl|rfl)
  .rw[a1];exact z1
  .rw[a2];exact z2
  .rw[a3];exact z3
 obtain⟨kf,ef,kp,ep,hf,hp,K,Kp⟩:=hr.dc;have md:∀{c:Jy} {a:yz!},M a=none->mup M1 (ad gt!) c a=M1 a:=λha=>mup_ne (IA (cZ jD_ ha));refine hR _ a9 yR! (a6t (rd:=.dir b) trivial old cs nw λa ha hn=>(ol_).trans (m1 a ha)) ?_;refine h.alloc eT! old cs nw ?_ ⟨_,mup_same,_,_,rfl,jv!,λy=>?_⟩ ?_ (λq l hn=>⟨(mup_ne λz=>hn (h.inj q gt! l trivial z)).trans yS_,?_⟩) trivial
 .rintro q q' (rfl|rfl|rfl) (rfl|rfl|rfl) e
  .rfl
  .rw[a1,a2]at e;exact absurd e n1
  .rw[a1,a3]at e;exact absurd e n2
  .rw[a1,a2]at e;exact absurd e.symm n1
  .rfl
  .rw[a2,a3]at e;exact absurd e n3
  .rw[a1,a3]at e;exact absurd e.symm n2
  .rw[a2,a3]at e;exact absurd e.symm n3
  .rfl
 .rw[iS];by_cases c:y=x
  .rw[HC c,c,a1];exact⟨bF!,λz=>absurd (.inr aI_) z⟩
  .rw[HA c];exact⟨λz=>by have z:=z.resolve_right λw=>c w.2;rw[old (.row y b) z];exact(kv y).1 z,λz=>(kv y).2 λw=>z (.inl w)⟩
 .rintro q (rfl|rfl|rfl)
  .rw[a1];exact⟨_,(md z1).trans hr.ob,by show Jy.obj _ _=Jy.obj _ [(_,.fn (a9 dA_)),(_,.fn (a9 dB!))];rw[a2,a3]⟩
  .rw[a2];exact⟨_,(md z2).trans hf,by show TF _ _ yU_;rw[vA];exact⟨IF _,_,_,rfl,K⟩⟩
  .rw[a3];exact⟨_,(md z3).trans hp,by show TF _ _ (yU_).reverse;rw[vA];exact⟨IF _,_,_,rfl,Kp⟩⟩
 .cases q with
  |dir c=>exact funext λy=>propext ⟨λz=>z.resolve_right λw=>hn (by rw[w.1]),.inl⟩
  |fol y c=>exact HA λz=>hx yV!
  |pre y c=>exact HA λz=>hx yV!
  |_=>rfl
nonrec def Ix.nn(V:Ix)(x:D)(l:b!):Ix:={V with nd:=λy=>V.nd y\/y=x,nu:=λy=>if y=x then l else V.nu y}
def a9t(h:aN!)(hx:¬V.nd x)(hk:gO_)(hB:B<3990)(e0:yH!)(e1:yH_)
  (hR:∀M' a9,a9 .ob=ad .ob->Fr M oj_ M' (Uj a9 on!)->Dm t M' a9 on! dD_->R Z_ M'):Cg mr! o_ tK! ρ M R:=by
 refine⟨Q_,yX!,λq z=>?_⟩;obtain⟨_,hd,kd,ed,rfl,ld,kv⟩:=h.ty .nums trivial;have m1:∀{c:Jy} a,M a≠none->mup M q c a=M a:=λa ha=>mup_ne (cZ ha z);refine sC (p:=ad .nums) e0 e1 ((yK_).trans h.ob) oF4 ((m1 _ jD_).trans hd) hk bf! ?_
 let a9:Sw->Addr:=λr=>if r=.nm x then q else ad r
 have a1:a9 gr_=q:=HC rfl;have old:∀r,Ii V r->a9 r=ad r:=λr l=>HA λz=>hx yQ!;have cs:∀r,Ii on! r->Ii V r\/r=.nm x:=λr l=>by
  cases r with
  |nm y=>exact l.imp_right λz=>by rw[z]
  |_=>exact .inl l
 have nw:∀r,r=.nm x->M (a9 r)=none:=λr e=>by rw[e,a1];exact z
 refine hR _ a9 yR! (a6t (rd:=.nums) trivial old cs nw λa ha hn=>(ol_).trans (m1 a ha)) ?_;refine h.alloc eT! old cs nw (λr r' e e' _=>e.trans e'.symm) ⟨_,mup_same,_,_,rfl,jv!,r9!⟩ (λr e=>?_) (λr l hn=>⟨(mup_ne λz=>hn (h.inj r .nums l trivial z)).trans yS_,?_⟩) trivial
 .rw[iS];by_cases c:y=x
  .rw[HC c,c,a1]
  .rw[HA c,old (.nm y) yZ_];exact kv y yZ_
 .subst e;rw[a1];exact⟨_,(mup_ne (IA (cZ jD_ z))).trans mup_same,by show Jy.lst _=Jy.lst (if x=x then _ else _);rw[A!];rfl⟩
 .cases r with
  |nums=>exact absurd rfl hn
  |nm y=>exact HA λz=>hx (by rw[<-z];exact l)
  |_=>rfl
end
section
def b3f{V:Ix}(h:aN!)(hi:Ig i)(hl:i3_<=B)(h0:kget k root=some .non)(Y:kget k Db=some .non)(hp:∀i p,V.pr i p->kget k i=some p):
  Dm t (mup M gr! (.dct (Bq k i x) e)) ad {V with pr:=λa p=>(V.pr a p/\a≠i)\/(a=i/\p=x)} dD_:=by
 refine h.up eT! (r0:=.par) trivial ⟨_,_,rfl,jv!,?_,?_,?_⟩ λr hn l=>n4!
 .rw[pX hi.nn.2.1];exact h0
 .rw[pX hi.nn.2.2];exact Y
 .rintro a p (⟨z,y⟩|⟨rfl,rfl⟩)
  .rw[pX (IA y)];exact hp a p z
  .rw[lG]
 .cases r with
  |par=>exact absurd rfl hn
  |_=>rfl
def a0u:(Lk n o xs).length=g!+1:=by obtain⟨u,v,e1,e2,_⟩:=lO n o xs;rw[e1,e1.symm,e2,e1];simp;omega
def c2l(h:∀a,¬P a->M' a=M a):Fr M P M' P:=λa _ hn=>⟨h a hn,hn⟩
def c3m(hO:aN_)(w:Ek W)(hn:n∉W.its)(ht:Ig n)(pj:De a=some ka)(zx:yt_)(hB:gB_)(hg:Rv W.rows n gG! b a8)
  (hR:∀M' O',Bo t M' o O' eM_ cU_->Fr M O M' O'->R .non M'):Hr t [ax!,n,a,b] M R:=by
 obtain⟨kn,jy⟩:=ht.key;have hp:Jr W gG!:=by split;assumption;exact .inr iz_
 have nP:¬Jr W n:=λz=>z.elim hn λz=>z.elim ht.nn.2.1 ht.nn.2.2;refine p!;generalize hK:(λ(r:Fl) (M':Mh)=>match r with|.rt d=>R d M'|.nx _=>R .non M')=KK;have hR':∀ρ' M',R .non M'->KK gW_ M':=λρ' M' z=>by rw[<-hK];exact z
 have key:∀pl,pl=gG!->AV t [aa!,a0_,some a,cW!,some pl] M KK:=by
  intro pl epl;rw[<-epl]at hg hp;obtain⟨kpl,hkpl⟩:=zB w hp;obtain⟨ad,eo,hO,hI⟩:=hO;have pn:n∉D.non::Hg W.rows pl:=by
   rw[GT,OV];exact⟨ht.nn.1,λz=>oY w hn pl (nE.mp z)⟩
  subst eo;obtain⟨_,Y,k1,e1,rfl,l1,p0,p1,pr⟩:=hI.ty .par trivial;have fv1:fVar 1 y1_=some n:=rfl;have f0:fVar 0 y1_=some jk_:=rfl;refine sC f0 fv1 hI.ob oF1 Y jy bf! ?_;have I1:=b3f (e:=Kr k1 n e1) (x:=pl) hI ht l1 p0 p1 pr;have F1:Fr M (Uj ad a1_) (mup M gr! (.dct (Bq k1 n pl) (Kr k1 n e1))) (Uj ad a1_):=c2l λa ha=>rP (r0:=.par) trivial ha;obtain⟨k2,e2,h2,_,kv⟩:=I1.dirV (b:=true);have r1:=I1.row (b:=true) (x:=pl) hp;refine a0i (c8h (d:=.fn (ad (.row pl true))) (a:=n) (b:=b) (λR'=>?_) (by simp only[Dh,r1.1.ob,rM.1,and_self]) rfl rfl (iP r1.1 jy zx pn (by have:=r1.2;omega) λM2 R2 K2=>?_))
  .simp[w2,wl,An,Ic,I1.ob,oF2,Do,h2,hkpl,(kv pl).1 hp,Du,fVar]
  obtain⟨I2,f2⟩:=I1.sl (x:=pl) (b:=true) (B':=B+2) a! hp R2 K2 y3_;refine vT (b:=true) I2 nP jy a! oF2 rfl rfl λM3 a3 o3 F3 I3=>?_;refine vT (b:=false) I3 (λz=>z.elim hn λy=>by cases y.1) jy a! oF3 (by rw[o3];rfl) rfl λM4 a4 o4 F4 I4=>?_;refine a9t I4 hn jy a! (by rw[o4,o3];rfl) rfl λM5 a5 o5 F5 I5=>hR' _ _ ?_;have F:=((F1.trans (c2l f2)).trans F3).trans (F4.trans F5);have hm:∀q,q∈a8↔q=(n,pl)\/q∈W.rows:=λq=>by
   rw[hg.mem,jD];exact or_congr_right ⟨λz=>z.1,λz=>⟨z,λe=>oY w hn q.2 (by rw[<-e];exact z)⟩⟩
  have wn:wo W.rows n=W.rows:=JL.mpr λq hq=>by simpa using λz=>oY w hn q.2 xm_
  have cn:Hg W.rows n=[]:=List.eq_nil_iff_forall_not_mem.mpr λc hc=>nP (w.rp _ _ (nE.mp hc));have np:pl≠n:=λz=>nP op_;have et:∀{P:eR!},(∃x∈W.its++[n],∃q∈jd_,P q)↔∃x∈W.its,∃q∈W.txt x,P q:=λ{P}=>by
   show"!|"
   .rintro⟨x,hx,q,hq,h⟩;by_cases c:x=n
    .rw[HC c]at hq;cases hq
    .rw[HA c]at hq;exact⟨x,(cQ!).resolve_right λz=>c (GZ.mp z),q,hq,h⟩
   .rintro⟨x,hx,q,hq,h⟩;exact⟨x,jG_,q,by rw[HA λz:x=n=>hn (z▸hx)];exact hq,h⟩
  have hL:∀r,Ii jH! r↔Ii (y9_) r:=λr=>by
   have d:∀(c:Bool) (y:D),(jH!).dm c y↔((a1_).dm c y\/(c=true/\y=n))\/(c=false/\y=n):=λc y=>by
    cases c with
    |true=>
     show"!|"
     .rintro(z|z)
      .exact .inl ((GS.mp z).imp .inl λz=>⟨rfl,a7!⟩)
      .exact .inl e0!
     .rintro((z|z)|z)
      .exact Or.imp_left (GU _) z
      .exact .inl (by rw[z.2];exact GV _ za_)
      .cases z.1
    |false=>show y∈W.its++[n]↔(y∈W.its\/_)\/_;simp
   cases r with
   |row y c=>exact d c y
   |fol y c=>exact d c y
   |pre y c=>exact d c y
   |nm y=>show y∈W.its++[n]↔y∈W.its\/y=n;simp
   |_=>exact Iff.rfl
  refine hR M5 (Uj a5 jH!) ⟨a5,o5.trans (o4.trans o3),zb!,I5.cv a! λr l=>⟨(hL r).mp l,?_⟩⟩ λc hc hr=>?_
  .have ls:∀(y:D) (c:Bool),(jH!).ls y c=(y9_).ls y c:=λy c=>by
    show _=if y=n/\c=false then[]else if y=n/\c=true then[]else if y=pl/\c=true then Lk n b y8_ else(a1_).ls y c
    cases c with
    |true=>
     rw[L_];show Hg a8 y=_;by_cases c1:y=n
     .rw[HC oq_,c1,hg.chl_ne np,wn,cn]
     .rw[zb_];by_cases c2:y=pl
      .rw[HC zc!,c2,zd!,wn]
      .rw[HA λz=>c2 z.1,hg.chl_ne (IA c2),wn];rfl
    |false=>
     show(xq_).map c_=_;by_cases c1:y=n
     .rw[HC c1,HC oq_];rfl
     .rw[HA c1,zb_,L_,L_];rfl
   cases r with
   |par=>exact funext λi=>funext λp=>propext ((hm cQ_).trans ⟨λz=>z.elim zf_ λz=>.inl ⟨z,λe=>oY w hn p (e▸z)⟩,λz=>z.elim (λz=>.inr z.1) λz=>.inl dB_⟩)
   |dir c=>exact funext λy=>propext (hL (.row y c))
   |nums=>exact funext λy=>propext (hL (.nm y))
   |wri=>exact funext λs=>funext λv=>propext et
   |hid=>exact funext λs=>propext et
   |fol y c=>exact ls y c
   |pre y c=>exact ls y c
   |nm y=>rfl
   |_=>rfl
  .obtain⟨f1,f2⟩:=F c hc λz=>hr jH_
   exact⟨f1,λ⟨r,l,e⟩=>f2 ⟨r,(hL r).mp l,e⟩⟩
 have hh:∀K:D->Mh->Prop,Cb t [ax!,a] M K->Az t.B6 "has" 2 fP_ i! ej! [aa!,a0_,some a,cW!,none] M K:=λK hK'=>⟨hO.noOb cS!,rfl,hK'⟩;refine hh _ (a5d hO pj ?_);by_cases c:Jr W a
 .rw[HF c];exact key a (by rw[HC c])
 .rw[HB c];exact key Db (by rw[HA c])
end
section
def qX(hO:aN_)(w:Ek W)(dh:gv!)(hkx:xS!)(pb:De s=some ks)(hB:gB_)
  (hR:∀M',(jn_->∀a8,Rv W.rows i x s a8->Bo t M' o O {W with rows:=a8} cU_)->(¬jn_->Bo t M' o O W cU_)->Fr M O M' O->R .non M'):
  Fe t [ax!,i,x,s] M R:=by
 refine p!;show Ad tO! (Ad _ (Ad _ _)) [aa!,aA_,some x,some s] M _;simp only[Ad,At,Mt,wT,Az,wl,Aa,Ac,fVar,List.getElem?_cons_zero,List.getElem?_cons_succ,Option.join_some];refine⟨hO.noOb cS!,rfl,?_⟩;refine a3a hO w dh hkx λb hb=>?_;cases b with
 |false=>
  have hc:¬jn_:=λz=>by have:=hb.mpr z;cases this
  have:=hR M (λz=>absurd z hc) (λ_=>hO.mono a!) .refl;simpa[Mp]using this
 |true=>
  obtain⟨hi,hx,hw⟩:=hb.mp rfl;obtain⟨p0,ju⟩:=b1y w hi;have wm:Jr W p0:=w.rp _ _ ju;obtain⟨zq,hkp0⟩:=zB w wm;obtain⟨uu,vv,c1,c2⟩:=a5q w.rnd ju;obtain⟨ad,rfl,hO,hI⟩:=hO;obtain⟨_,Y,k1,e1,rfl,l1,q0,q1,pr⟩:=hI.ty .par trivial;obtain⟨k2,e2,h2,_,kv⟩:=hI.dirV (b:=true);have r0:Hk t M zi_ (ad (.fol p0 true)) (ad (.pre p0 true)) (uu++i::vv)/\(uu++i::vv).length<=B:=by rw[<-c1];exact hI.row (b:=true) (x:=p0) wm
  have hx0:∀R',w2 Do dp! mp! zj! M R'=R' (.fn zi_) M:=by
   intro R';simp[w2,wl,An,Ic,hI.ob,oF1,oF2,Do,Y,h2,dh,pr i p0 ju,hkp0,(kv p0).1 wm,Du,fVar]
  simp only[Bool.not_true,Bool.false_eq_true,if_false,Bm,Bb,Az,hx0];refine⟨by simp only[Dh,r0.1.ob,rM.2.1,and_self],rfl,?_⟩;refine a0e r0.1 dh (by have:=r0.2;omega) λM1 R1 K1=>?_;rw[<-c2]at R1;obtain⟨I1,f1⟩:=hI.sl (x:=p0) (b:=true) (Nat.le_refl B) wm R1 K1 (by have:=r0.2;rw[c2];simp at this ⊢;omega);obtain⟨k2,e2,h2,_,kv⟩:=I1.dirV (b:=true);obtain⟨_,Y,k1,e1,rfl,l1,q0,q1,pr⟩:=I1.ty .par trivial;have e1x:(zk!).ls x true=Hg os_ x:=by
   show(if x=p0/\true=true then _ else Hg W.rows x)=_;by_cases e:x=p0
   .rw[if_pos ⟨e,rfl⟩,e]
   .rw[if_neg λz=>e z.1,wL λz=>e zm_]
  have r1:=I1.row (b:=true) (x:=x) hx;rw[e1x]at r1;have hx1:∀R',w2 Do dp! M! zj! M1 R'=R' (.fn (ad (.row x true))) M1:=by
   intro R';simp[w2,wl,An,Ic,I1.ob,oF2,Do,h2,hkx,(kv x).1 hx,Du,fVar]
  simp only[hx1];refine⟨by simp only[Dh,r1.1.ob,rM.1,and_self],rfl,?_⟩;refine iP r1.1 dh pb (by rw[List.mem_cons,not_or];exact⟨(jr_).nn.1,λz=>(jD.mp (nE.mp z)).2 rfl⟩) (by have:=r1.2;omega) λM2 R2 K2=>?_;obtain⟨I2,f2⟩:=I1.sl (x:=x) (b:=true) (Nat.le_succ B) hx R2 K2 y3_;have gf:=(K2 gr! (λz=>by have:=I1.inj .par (.fol x true) trivial hx z;cases this) λz=>by have:=I1.inj .par (.pre x true) trivial hx z;cases this).trans Y;have ag:R .non (mup M2 gr! (.dct (Bq k1 i x) (Kr k1 i e1))):=by
   have I3:=b3f (e:=Kr k1 i e1) (x:=x) I2 jr_ (Nat.le_succ_of_le l1) q0 q1 pr;refine hR _ (λ_ a8 hg=>⟨ad,rfl,hO,I3.cv a! λr l=>n4!⟩) (λz=>absurd ⟨hi,hx,hw⟩ z) λc hc hr=>⟨(rP (V:=Iy W) (r0:=.par) trivial λz=>hr jH_).trans ((f2 c λz=>hr jH_).trans (f1 c λz=>hr jH_)),hr⟩;have ls:∀(y:D) (c:Bool),(Iy {W with rows:=a8}).ls y c=((zk!).sl x true (Lk i s (Hg os_ x))).ls y c:=λy c=>by
    show _=if y=x/\c=true then _ else if y=p0/\c=true then _ else(a1_).ls y c
    cases c with
    |false=>rw[if_neg d_,if_neg d_];rfl
    |true=>
     show Hg a8 y=_;by_cases c1:y=x
     .rw[if_pos oq_,c1,zd!]
     .rw[if_neg λz=>c1 z.1,hg.chl_ne (Ne.symm c1)];by_cases c2:y=p0
      .rw[if_pos zc!,c2]
      .rw[if_neg λz=>c2 z.1,wL λz=>c2 zm_];rfl
   cases r with
   |par=>exact funext λa=>funext λp=>propext (hg.mem.trans ⟨λz=>z.elim zf_ λz=>.inl (jD.mp z),λz=>z.elim (λz=>.inr (jD.mpr z)) λz=>.inl dB_⟩)
   |fol y c=>exact ls y c
   |pre y c=>exact ls y c
   |dir c=>cases c<;>rfl
   |_=>rfl
  simpa[Cg,wl,An,Ic,Du,fVar,I2.ob,oF1,Kx,gf,dh,show k1.length<big by unfold big;omega]using ag
end
end K12
namespace K12
open PySem L2 DL
nonrec def Bl.nd(t:Bl):Prop:=[t.A0,t.A7,t.A8,t.A9,t.B0,t.B1,t.B2,t.B3,t.B4].Nodup/\[bP_,ce_,cN!].Nodup
def Jo(c:Nat):Bool:=decide (32<=c)&&decide (c<=126)&&!(c==37)
def Rl(s:Str):Bool:=decide (aO_<=1000)&&s.cps.toList.all Jo
def c4x(a c:Nat):Pg ⟨#[a]⟩ an!=decide (a<=c):=by
 unfold Pg;simp only[List.cons_lt_cons_iff,List.not_lt_nil,and_false,NX];by_cases h:c<a
 .simp[h]
 .simp[h];omega
def a9r:(" ":Str)=⟨#[32]⟩:=by decide+kernel
def a9q:("~":Str)=⟨#[126]⟩:=by decide+kernel
def c5w(c:Nat):Fm [ep!]=some (.bl (Jo c)):=by
 push_cast[Fm,Pk,Xf,a9r,a9q,c4x,Str.length,Jo]
 by_cases Y:32<=c<;>by_cases h2:c<=126<;>simp[Y,h2];rw[JH];simp;omega
def tU(ρ:Ab)(pe:ρ=cn!):∀(cs:l!),cs.all Jo=true->
  Df G! ay_ ie! ρ (cs.map λc=>.str an!)=some jI_
 |[],_=>rfl
 |c::cs,h=>by
  rw[NE,HQ]at h;have ih:=tU ρ pe cs h.2;subst pe;simp only[HD,Df,ih];simp[Ax,f1,aCons,fVar,aNil,c5w,h.1]
def tX:∀(cs:l!),Ie zo_=some zp!
 |[]=>rfl
 |c::cs=>by simp only[HD,Ie,tX cs,LF]
def a7u(a b:Str):eqD (.str a) (.str b)=fn!:=by unfold eqD;rfl
def rD(a b:Int):eqD ot! jJ!=fn!:=by unfold eqD;rfl
def a3d(s:Str):∀xs:List Str,zp_=xs.any (·==s)
 |[]=>rfl
 |x::xs=>by rw[HD,MO,MO,a3d s xs,a7u]
def b9x(s:Str)(xs:D!):Sr false bS_ (.tup jJ_)=some (.bl (xs.any (·==s))):=by
 have h:(jJ_).all Iu=true:=by simp[KO,Iu]
 show(if Iu bS_&&(jJ_).all Iu then some (D.bl zp_)else none)=_;rw[h,a3d];rfl
def iL(a b:Str):eqD' (.str a) (.str b)=some (.bl fn!):=by simp[eqD',Aw,dep,a7u]
def in2(k a b:Str):Sr false bv_ (.tup [.str a,.str b])=some (.bl (a==k||b==k)):=by have:=b9x k aJ!;simpa only[HD,LZ,MO,List.any_nil,Bool.or_false]using this
def dN(a b:Int):eqD' ot! jJ!=some (.bl fn!):=by simp[eqD',Aw,dep,rD]
abbrev scr(ns:v_):D:=.lst iG!
def tZ(h0:0<=i)(Y:i<g!):∃x,atI xs i=some x/\x∈xs:=by refine⟨xs[i.toNat]' a!,?_,IZ _⟩;unfold atI Eh;rw[HC h0,HC Y];simp
def c1n(ns:v_)(k:Int):∃c,Lp [bT_,gH!]=some ou_:=by
 cases ns with
 |nil=>exact⟨0,by push_cast[Lp,Qe,scr,Pn]⟩
 |cons n r=>
  have hp:(0:Int)<gH_+1:=by omega
  obtain⟨x,e,hx⟩:=tZ (xs:=zq_) (i:=k%(gH_+1)) ov_ (by simpa using JD k hp);obtain⟨c,_,rfl⟩:=HI.mp hx;refine⟨c,?_⟩;have e':ixD (.lst zq_) (.int (k%(gH_+1)))=some ou_:=e;simp only[HD]at e';simp[Lp,Qe,scr,Bk,As,sSeq,Dr,Bj,fVar,Pn,f2,f1,aCons,aNil,Bp,modD,Co,hp,e']
def eX(ns:v_):∃m,g_Lmix [bT_,gH!]=some dD!/\0<=m/\m<4294967231:=by obtain⟨c,hc⟩:=c1n ns k;refine⟨_,by push_cast[g_Lmix,Vm,hc,Rm];rfl,JQ _ b_,JD _ b_⟩
def kY(h:xs≠[]):∃x,Cp [dF_,aD_]=some x/\x∈xs:=by
 have hl:0<g!:=List.length_pos_iff.mpr h;have hp:(0:Int)<it_:=by omega
 obtain⟨x,e,hx⟩:=tZ (xs:=xs) (i:=n%it_) ov_ (JD n hp);refine⟨x,?_,hx⟩;have e':ixD A_ (.int (n%it_))=some x:=e;simp[Cp,Ti,Bk,As,fVar,f2,f1,aCons,aNil,Bp,modD,Co,hp,e',hl]
def kK(P:Nat->Ab->Prop):∀(ds:b!) (i:Nat) (ρ:Ab),P i ρ->
  (∀(j:Nat) (d:D) (ρ:Ab),ds[j]?=some d->P (i+j) ρ->∃aj bd,bnd d ρ=some aj/\q aj=some (.nx bd)/\P (i+j+1) bd)->
  ∃ρ',Oi bnd q ds ρ=some gW_/\P (i+e_) ρ'
 |[],i,ρ,h,_=>⟨ρ,rfl,h⟩
 |d::ds,i,ρ,h,hs=>by
  obtain⟨aj,bd,e1,e2,h2⟩:=hs 0 d ρ rfl h;obtain⟨ρ',e3,h3⟩:=kK P ds S! bd h2 λj d ρ hd hp=>by
   have:=hs bl! d ρ (by simpa using hd) (by rw[show i+bl!=i+1+j by omega];exact hp);rw[show i+bl!+1=i+1+j+1 by omega]at this;show"#-"
  refine⟨ρ',?_,by rw[HJ,show i+(ds.length+1)=i+1+ds.length by omega];exact h3⟩;simp[Oi,e1,e2,e3]
def nZ(R:D->Prop):∀(ds:b!),(∀d∈ds,∃aj b,bnd d ρ=some aj/\ft aj=some b/\(b=true->∃y,fe aj=some y/\R y))->
  ∃ys,Df bnd ft fe ρ ds=some ys/\P!<=e_/\∀y∈ys,R y
 |[],_=>⟨[],rfl,HK _,λy hy=>by cases hy⟩
 |d::ds,h=>by
  obtain⟨aj,b,e1,e2,hy⟩:=h d GR;obtain⟨ys,e3,hl,hr⟩:=nZ R ds λx hx=>h x aP!
  cases b with
  |false=>exact⟨ys,by simp[Df,e1,e2,e3],cW_,hr⟩
  |true=>
   obtain⟨y,e4,r4⟩:=hy rfl;refine⟨y::ys,by simp[Df,e1,e2,e3,e4],cW_,kA_⟩;obtain rfl|hz:=GT.mp hz
   .exact r4
   .exact hr z hz
def qD:∀{ds ys:b!},Df bnd ay_ fe ρ ds=some ys->P!=e_
 |[],ys,e=>by cases e;rfl
 |d::ds,ys,e=>by
  unfold Df at e;obtain⟨aj,e1,e⟩:=GN.mp e;simp only[KC,JN]at e;obtain⟨y,e3,e⟩:=GN.mp e;obtain⟨zs,e4,rfl⟩:=GX.mp e;simp[qD e4]
def NameG(x:D):Prop:=∃a b,x=.tup xj!/\0<=a/\a<16/\1<=b/\b<=2000
def Cr(x:D):Prop:=x=.str "root"\/x=.str "bin"\/NameG x
def Mn(x:D):Prop:=x=.non\/NameG x
def Vw(x:D):Prop:=∃a b c,x=.tup xj_/\0<=a/\a<16/\1<=b/\b<=2000/\0<=c/\c<=15
def Kt(x:D):Prop:=x=.non\/Vw x
inductive DG:D->Prop
 |put {a b:D}:Cr a->Mn b->DG zv!
 |move {a b c:D}:Cr a->Cr b->Mn c->DG oy_
 |drop {a:D}:Cr a->DG oA!
 |write {a b:D} {s:Str}:Cr a->Kt b->Rl s=true->1<=aO_->aO_<=16->DG (.tup oB!)
 |cut {a:D} {x y z m:Int}:Cr a->Vw gy_->1<=m->z+m<=16->DG (.tup [.str "cut",a,.tup jp_,cV!])
 |set {a:D} {p n:Int}:Cr a->0<=p->p<=3->n.natAbs<10 ^ 60->DG (.tup [jL!,a,.int p,aD_])
 |undo {a:D}:NameG a->DG (.tup [oB_,a])
 |redo {a:D}:NameG a->DG (.tup [.str "redo",a])
def Sx(o:D):Prop:=∃h n tm d,o=.tup [af_,aD_,jL_,d]/\0<=h/\h<16/\1<=n/\n<=2000/\DG d
def a2q(h:DG d):∃k r,d=.tup eX_/\(k="write"->∃a b s,r=[a,b,eU_]/\aO_<=16):=by
 cases h with
 |write _ _ _ _ h5=>exact⟨_,_,rfl,λ_=>⟨_,_,_,rfl,h5⟩⟩
 |_=>exact⟨_,_,rfl,λz=>absurd z k_⟩
def b5g(h:gK!)(hl:gK_):∃ys,Ib [jM_]=some zy!/\P!<=100/\∀x∈ys,NameG x:=by
 obtain⟨ys,e,l,hr⟩:=nZ (ρ:=cn!) (bnd:=Ax 0) (ft:=fT m3_) (fe:=Au m4!)
  (zz!) ops (by
   intro o ho;obtain⟨h',n,tm,d,rfl,b1,b2,b3,b4,hd⟩:=h o ho;obtain⟨k,r,rfl,_⟩:=a2q hd;refine⟨_,_,rfl,by push_cast[iL];rfl,λ_=>⟨_,by push_cast,zz_⟩⟩)
 have hc:Ff 1 [] iq! G! (fT m3_) m4_ [ak!]=some aX_:=by
  show zA!;rw[cX!,e];rfl
 have a1:Ag (.lst [cX_]) aX_=some zB_:=by
  show(if 1+P!<=big then some (D.lst ([cX_]++ys))else none)=_;rw[cX!];rfl
 have a2:Ag zB_ (.lst jN!)=some zy!:=by
  show(if P!+1+2<=big then some (D.lst (.str "root"::ys++jN!))else none)=_;rw[cX!];rfl
 exact⟨ys,by simp[Ib,Rj,Bk,As,f2,fC,hc,a1,a2],m_,hr⟩
def b9u(hr:∀x∈ys,NameG x):∀x∈D.str "root"::(ys++jN!),Cr x:=λx hx=>by
 simp at hx;obtain rfl|hx|rfl|rfl:=hx
 .exact dY_
 .exact .inr (.inr (hr x hx))
 .exact ob!
 .exact .inr (.inr ⟨9,9,rfl,Q_,Q_,Q_,Q_⟩)
def b5f(h:gK!)(hl:gK_):∃its,Ib [jM_]=some oD_/\3<=f3!/\f3!<=200/\∀x∈its,Cr x:=by obtain⟨ys,e,l,hr⟩:=b5g h hl;exact⟨_,e,R_,cW_,b9u hr⟩
def b1o(h:gK!)(hl:gK_):∃ss,Ju [jM_]=some (.lst ss)/\ss≠[]/\∀x∈ss,Kt x:=by
 let P:Nat->Ab->Prop:=λi ρ=>∃db x y,ρ=[ak!,oE!,x,y]/\db≠[]/\oE_<=2+16*i/\∀z∈db,Kt z
 obtain⟨ρ',e,db,x,y,rfl,f0,_,hf⟩:=kK (bnd:=Bd 2) (q:=Dr u3_ u4_ Bj)
  P ops 0 [ak!,some (.lst [.non,.tup [.int 9,.int 9,.int 3]]),none,none] ⟨_,_,_,rfl,by simp,by simp,by
   intro z hz;simp at hz;obtain rfl|rfl:=hz
   .exact dY_
   .exact .inr ⟨9,9,3,rfl,Q_,Q_,Q_,Q_,Q_,Q_⟩⟩ (by
  rintro j d ρ hd ⟨db,x,y,rfl,f0,fl,hf⟩;have hj:j<jM!:=(HG.mp hd).1;obtain⟨h',n,tm,d',rfl,b1,b2,b3,b4,hdg⟩:=h d (MJ hd);obtain⟨k,r,rfl,hw⟩:=a2q hdg;by_cases hk:k="write"
  .subst hk;obtain⟨a,b,s,rfl,s16⟩:=hw rfl;have zt:aO_<=big:=by unfold big;omega
   let P2:Nat->Ab->Prop:=λi ρ=>∃db y,ρ=zD!/\db≠[]/\oE_<=2+16*(0+j)+i/\∀z∈db,Kt z
   obtain⟨bd,e2,VI,y2,rfl,f20,f2l,yg⟩:=kK (bnd:=Bd 3) (q:=Nc 1 u4!) P2 (rangeD aO_) 0
    (zD!) ⟨db,y,rfl,f0,fl,hf⟩ (by
     rintro i d ρ hd ⟨db,y,rfl,f0,fl,hf⟩;unfold rangeD at hd;rw[IK]at hd;obtain⟨i',c6,rfl⟩:=GX.mp hd;obtain⟨ai,he⟩:=HG.mp c6;rw[OX]at he;subst he;rw[LN]at ai;have hb:oE_<big:=by unfold big;omega
     refine⟨_,_,rfl,by push_cast[Nc,hb];rfl,db++[.tup [.int h',aD_,sI_]],_,rfl,R_,cW_,kA_⟩;obtain hz|hz:=GS.mp hz
     .exact hf z hz
     .simp at hz;subst hz;exact .inr ⟨_,_,_,rfl,b1,b2,b3,b4,m_,m_⟩)
   have hr:-1000<=jO!/\jO!<=100000:=by omega
   refine⟨_,[ak!,some (.lst VI),zC_,y2],rfl,by push_cast[iL,Li,iRng,zt,hr,e2],VI,_,_,rfl,f20,?_,yg⟩;simp[rangeD]at f2l;omega
  .refine⟨_,[ak!,oE!,some (.tup [.int h',aD_,jL_,.tup eX_]),y],rfl,by push_cast[iL,hk],db,_,_,rfl,f0,m_,hf⟩)
 refine⟨db,?_,f0,hf⟩;simp[Ju,Ri,Nb,Bk,sSeq,aCons,aNil,fC,Li,Ct,fVar,As,e]
abbrev letters:Str:=" abcXYZ.,;!019~[]\\\"'|{}<>@#$&*()-+/=_^:?`"
def pV:oF!=41:=by decide+kernel
def a4y:letters.cps.toList.all Jo=true:=by decide+kernel
def b0n:(jP!).cps=#[]:=by decide+kernel
def b0m:(jP!).length=0:=by decide+kernel
def Og(c:Nat):D:=.str an!
def a0f:∀(xs:b!),(∀x∈xs,∃c,x=Og c/\Jo c=true)->∃cs:List Nat,xs=cs.map Og/\cs.all Jo=true
 |[],_=>⟨[],rfl,rfl⟩
 |x::xs,h=>by
  obtain⟨c,rfl,hc⟩:=h x GR;obtain⟨cs,rfl,qr⟩:=a0f xs λy hy=>h y cL!
  exact⟨c::cs,rfl,by simp only[NE,hc,qr,MQ]⟩
def uX:∀(cs:l!),Qt oF_=some jP_
 |[]=>rfl
 |c::cs=>by simp only[HD,Og,Qt];rw[show List.map Og cs=List.map Og cs from rfl,uX cs];rfl
def a2h:∀(cs:l!) (acc:Array Nat),(jP_).foldl (λacc p=>acc++(jP!).cps++p.cps) acc=acc++cs.toArray
 |[],acc=>by simp
 |c::cs,acc=>by
  rw[HD,OB,a2h cs,b0n];simp
def b5e(cs:l!):Txt.join jP! jP_=oG!:=by
 unfold Txt.join Builtin.Str.glued;cases cs with
 |nil=>rfl
 |cons c cs=>
  simp only[HD,List.drop_succ_cons,List.drop_zero,List.headD_cons];rw[a2h];simp
def a5z:∀(cs:l!),((jP_).map (·.length)).sum=cV_
 |[]=>rfl
 |c::cs=>by
  have ih:=a5z cs;simp only[HD,List.sum_cons,HJ];rw[ih];show 1+cV_=_;omega
def b7m(Y:1<=most)(h16:most<=16):∃s,Ln [aD_,.int most]=some bS_/\Rl s=true/\1<=aO_/\aO_<=16:=by
 have hm0:0<=n%most:=JQ _ a!;have zy:n%most<most:=JD _ a!;obtain⟨N,hN⟩:∃N:Nat,(N:Int)=1+n%most:=⟨(1+n%most).toNat,m_⟩;have hN1:1<=N:=by omega
 have hN2:N<=16:=by omega
 obtain⟨ys,e,l,hr⟩:=nZ (ρ:=zI_) (bnd:=Ax 0) (ft:=zI!) (fe:=f2 ixD K! u5_)
  (λy=>∃c,y=Og c/\Jo c=true) eZ! (by
   intro d hd;unfold rangeD at hd;obtain⟨i,hi,rfl⟩:=HI.mp hd;have c6:=NP.mp hi;have z1:(0:Int)<1+3*(i:Int):=by omega
   have z2:1+3*(i:Int)<1073741824:=by omega
   have ay:oF!<=big:=by rw[pV];decide
   have hsz:((zJ!:Nat):Int)=41:=by
    have:zJ!=41:=by rw[<-pV];simp[Str.length]
    omega
   obtain⟨c,ec,hc⟩:=tZ (xs:=letters.cps.toList) (i:=n / zJ_%41) (JQ _ b_) (by rw[hsz];exact JD _ b_);have hix:ixD oG_ (.int (n / zJ_%41))=some (Og c):=by
    show(if oF!<=big then(atI letters.cps.toList _).map _ else none)=_;rw[HC ay,ec];rfl
   refine⟨_,true,rfl,rfl,λ_=>⟨Og c,?_,c,rfl,KO.mp a4y c hc⟩⟩;simp[Ax,f2,fVar,fC,Ag,Cm,Co,Rm,Av,modD,z1,z2,hix])
 have l2:=qD e;obtain⟨cs,rfl,qr⟩:=a0f ys hr;have ce:cV_=N:=by simpa[rangeD]using l2
 have hrng:-1000<=(N:Int)/\(N:Int)<=100000:=by omega
 have hc:Ff 1 [0,2] (iRng m6!) G! ay_ u6! zK_=some (.lst oF_):=by
  have hi:iRng m6! zK_=some eZ!:=by
   simp[iRng,f2,fC,fVar,modD,Co,show 0<most by omega,Ag,<-hN,hrng]
  unfold Ff;rw[hi];show(if(eZ!).length<=big then Option.map D.lst (Df _ _ _ zI_ eZ!)else none)=_;rw[HC (by simp[rangeD,big];omega),e];rfl
 have hj:Tk (.str "") (.lst oF_)=some (.str oG!):=by
  unfold Tk;simp only[uX,KC,a5z,GY,b0m,Nat.mul_zero,Nat.add_zero,b5e];rw[cX!]
 refine⟨oG!,?_,?_,?_,?_⟩
 .simp[Ln,Th,Bk,sSeq,Bf,fC,As,Vt,hc,hj]
 .simp only[Rl,Str.length,GW,qr,Bool.and_true,HS];omega
 .simp only[Str.length,GW];omega
 .simp only[Str.length,GW];omega
def GH:Ab->Option Fl:=(Bf 4 m7_)
def GG:Ab->Option Fl:=u7!
def GF:Ab->Option Fl:=u9_
def GE:Ab->Option Fl:=vc!
def FK:Ab->Option Fl:=vc_
def GC:Ab->Option Fl:=vd!
def GB:Ab->Option Fl:=vd_
def GA:Ab->Option Fl:=vf_
def FZ:Ab->Option Fl:=vh!
def FY:Ab->Option Fl:=vi_
def BK:Ab->Option Fl:=vj_
def BJ:Ab->Option Fl:=vk_
def Zd:Ab->Option Fl:=vm_
def Xj:Ab->Option Fl:=vr_
nonrec def dq14:Ab->Option Fl:=vs_
nonrec def dq15:Ab->Option Fl:=vu!
def CG:Ab->Option Fl:=(sSeq GA (sSeq FZ (sSeq FY (sSeq BK zM_))))
def a9a:Nh=(sSeq GH (sSeq GG (sSeq GF (sSeq GE (sSeq FK (sSeq GC (sSeq GB CG))))))):=rfl
def aZ(h:q1 ρ=some gW_):sSeq q1 q2 ρ=q2 ρ':=by simp[sSeq,h]
def lM(h:q1 ρ=some af!):sSeq q1 q2 ρ=some af!:=by simp[sSeq,h]
def fG(h:ci_):Bf i f ρ=some (.nx bs!):=by simp[Bf,h]
abbrev kinds:List D:=[gJ!,gJ!,gJ!,ox_,ox_,oA_,oA_,.str "cut",jL!,oB_,.str "redo",oz!]
def KindOk(k:Str):Prop:=k="put"\/k="move"\/k="write"\/k="cut"\/k="set"\/k="undo"\/k="redo"\/k="drop"
def a2w(h:x∈Cf xs lo hi):x∈xs:=List.mem_of_mem_drop (List.mem_of_mem_take h)
def Oe:D->D
 |.str _=>.non
 |d=>d
def a1x(h:Cr d\/d=.non):(Ei "str" d=some true/\Oe d=.non)\/(Ei "str" d=some false/\Oe d=d/\Mn d):=by
 rcases h with(rfl|rfl|⟨a,b,rfl,h⟩)|rfl
 .exact .inl aI_
 .exact .inl aI_
 .exact .inr ⟨rfl,rfl,.inr ⟨a,b,rfl,h⟩⟩
 .exact .inr ⟨rfl,rfl,dY_⟩
def c6b(ns:v_)(h:gK!)(hl:gK_):∃m0 its item jg k,0<=m0/\its≠[]/\(∀x∈its,Cr x)/\Cr item/\Mn jg/\KindOk k/\
  Nh zN_=CG oI!:=by
 obtain⟨m0,e0,p0,_⟩:=eX ns (k:=base);obtain⟨m1,e1,_,_⟩:=eX ns (k:=base+1);obtain⟨m2,e2,_,_⟩:=eX ns (k:=base+2);obtain⟨its,ei,i3,i200,pz⟩:=b5f h hl;have wp:its≠[]:=by intro z;subst z;simp at i3
 have rl:zO_≠[]:=by
  intro z;have z2:=congrArg List.length z;simp[Cf,HT.sIx]at z2;omega
 have ce:(zP!).length+(zP_).length<=big:=by
  simp[Cf,HT.sIx,big];omega
 obtain⟨item,ep,mp⟩:=kY (n:=m1) rl;have qc:Cr item:=by
  obtain z|z:=GS.mp mp
  .exact zQ!
  .exact zQ!
 have a1:Ag (.lst zP!) (.lst zP_)=some (.lst zO_):=by
  show(if _<=big then _ else none)=_;rw[HC ce]
 have a2:Ag oD_ (.lst iK_)=some (.lst (its++iK_)):=by
  show(if f3!+2<=big then _ else none)=_;rw[cX!]
 obtain⟨b9,eo,mo⟩:=kY (n:=m2) (xs:=its++iK_) d_;have u7:Cr b9\/b9=.non:=by
  obtain z|z:=GS.mp mo
  .exact .inl (pz _ z)
  .simp at z;exact .inr z
 have oj:Mn (Oe b9):=by
  obtain⟨_,z⟩|⟨_,z,y⟩:=a1x u7
  .rw[z];exact .inl rfl
  .rw[z];exact y
 obtain⟨kd,ek,mk⟩:=tZ (xs:=kinds) (i:=m0%12) (JQ _ b_) (by show _<(12:Int);exact JD _ b_);obtain⟨k,rfl,hk⟩:∃k,kd=.str k/\KindOk k:=by
  simp[kinds]at mk;unfold KindOk;obtain rfl|rfl|rfl|rfl|rfl|rfl|rfl|rfl:=mk<;>exact⟨_,rfl,R_⟩
 have ek':ixD zO! (.int (m0%12))=some bv_:=ek;refine⟨m0,its,item,Oe b9,k,p0,wp,pz,qc,oj,hk,?_⟩;rw[a9a];rw[aZ (ρ':=[E_,ak_,ak!,a2_,bw_,none,none,none,none,none,none,none]) (fG (by simp[f1,aCons,fVar,aNil,e0]))];rw[aZ (ρ':=[E_,ak_,ak!,a2_,bw_,bU!,none,none,none,none,none,none]) (fG (by simp[f1,aCons,fVar,aNil,ei]))];rw[aZ (ρ':=[E_,ak_,ak!,a2_,bw_,bU!,co!,none,none,none,none,none]) (fG (by
  have b1:Ag jR_ aJ_=some (.int (base+1)):=rfl;simp[f1,aCons,fVar,aNil,f2,Dj,Ay,Ak,Al,fC,a1,b1,e1,ep]))]
 rw[aZ (ρ':=[E_,ak_,ak!,a2_,bw_,bU!,co!,some b9,none,none,none,none]) (fG (by
  have b1:Ag jR_ cD_=some (.int (base+2)):=rfl;simp[f1,aCons,fVar,aNil,f2,fC,a2,b1,e2,eo]))]
 rw[aZ (ρ':=[E_,ak_,ak!,a2_,bw_,bU!,co!,oI_,none,none,none,none]) (by
  obtain⟨z1,z2⟩|⟨z1,z2,_⟩:=a1x u7<;>simp[FK,Dr,fT,Cu,fVar,z1,z2,Bj,Bf,fC])]
 rw[aZ (ρ':=[E_,ak_,ak!,a2_,bw_,bU!,co!,oI_,e0_,none,none,none]) (fG f9_)];rw[aZ (ρ':=[E_,ak_,ak!,a2_,bw_,bU!,co!,oI_,e0_,oH_,none,none]) (fG (by simp[f2,fVar,fC,modD,Co,ek']))]
section
def b0i(h:c ρ=some true):Dr c a b ρ=a ρ:=by unfold Dr;rw[h];rfl
def gP(h:c ρ=some false):Dr c a Bj ρ=some Z_:=by unfold Dr;rw[h];rfl
def nX(h:fVar i ρ=some bv_)(e:(k==s)=b):fT (f2 eqD' nA_ (fC bS_)) ρ=some b:=by unfold fT f2 fC;rw[h];show(eqD' bv_ bS_).bind _=_;rw[iL,e];rfl
def bI(h:ci_)(g:gO!):aCons f fs ρ=some cO_:=by unfold aCons;rw[h,g];rfl
def lN(h:gO!)(hl:zR_):As (Au fs) ρ=some (.rt cO!):=by unfold As Au;rw[h];show Option.map _ zS!=_;rw[zS_];rfl
def fS(h:gO!)(e:g ds=some d):f1 g fs ρ=some d:=by unfold f1;rw[h];exact e
def cH{f1 f3:i_}(h:f1 ρ=some x)(k:f3 ρ=some y)(e:g x y=some d):f2 g f1 f3 ρ=some d:=by unfold f2;rw[h,k];exact e
def a1j(h:fVar 0 ρ=some bw!)(g:fVar 1 ρ=some jR_)(e:g_Lmix [bT_,.int (base+j)]=some dD!):f1 g_Lmix (aCons k! (aCons (f2 Ag C! (fC cm!)) aNil)) ρ=some dD!:=
 fS (bI h (bI (cH g rfl rfl) rfl)) e
def b2r(a:f ρ=some A_)(b:h ρ=some dD!)(e:Cp [dF_,cV!]=some p):f1 Cp (aCons f (aCons h aNil)) ρ=some p:=
 fS (bI a (bI b rfl)) e
end
def fY(h:0<j):modD N! cm!=some (.int (i%j)):=by show(if decide (0<j)=true then _ else _)=_;rw[HC (HF h)]
def c0u(ns:v_)(h:gK!)(hl:gK_)(zy:1<=most)(hm16:most<=16):∃d,Im zU!=some d/\DG d:=by
 obtain⟨m0,its,item,jg,k,p0,wp,pz,qc,u7,hk,hA⟩:=c6b ns (base:=base) (most:=most) h hl;have ag:∀d,CG oI!=some af!->Im zU!=some d:=λd e=>by
  unfold Im Bk;rw[ga!];show(match Nh zN_ with|some (.rt d)=>some d|some (.nx _)=>some .non|none=>none)=_;rw[hA,e]
 clear hA;obtain⟨m1,e1,_,_⟩:=eX ns (k:=base+1);obtain⟨m3,e3,_,_⟩:=eX ns (k:=base+3);obtain⟨m4,e4,_,_⟩:=eX ns (k:=base+4);obtain⟨m5,e5,_,_⟩:=eX ns (k:=base+5);obtain⟨p1,ux,mp1⟩:=kY (n:=m1) wp;obtain⟨p3,VJ,mp3⟩:=kY (n:=m3) wp;obtain⟨ss,es,zz,hss⟩:=b1o h hl;obtain⟨sg,eg,mg⟩:=kY (n:=m4) zz;have VL:=hss _ mg;obtain⟨tx,et,ht1,ht0,ht2⟩:=b7m (n:=m5) zy hm16;have u8:∀{k:Str},BK oI!=some (.nx oK!):=
  fG (fS (bI (fS jT_ es) (bI (a1j rfl rfl e4) rfl)) eg)
 have VM:∀{k:Str},zV!=true->Xj oK!=some (.rt zW!):=λ{k} e=>
  (b0i (by unfold fT;rw[zX!,e];rfl)).trans zY!
 have VN:DG zW!:=.set qc a! a! a!;obtain⟨nm,nn,hun⟩:∃nm,NameG nm/\∀{k:Str},("put"==k)=false->sSeq dq14 dq15 [some (scr ns),some (.int base),some (.lst ops),some (.int most),some (.int m0),some (.lst its),some item,some jg,some (.lst kinds),some (.str k),some sg,none]=some (.rt (.tup [.str k,nm])):=by
  obtain⟨ys,e,l,hr⟩:=nZ (ρ:=cn!) (bnd:=Ax 0) (ft:=zI!) (fe:=Au m4!)
   (zz!) ops (by
    intro o ho;obtain⟨h',n,tm,d,rfl,b1,b2,b3,b4,_⟩:=h o ho;exact⟨_,true,rfl,rfl,λ_=>⟨_,rfl,zz_⟩⟩)
  have a1:Ag aX_ (.lst oK_)=some (.lst (ys++oK_)):=by
   show(if P!+1<=big then _ else none)=_;rw[cX!]
  obtain⟨nm,en,mn⟩:=kY (n:=m1) (xs:=ys++oK_) d_;refine⟨nm,?_,λ{k} _=>(aZ (fG (cH ?_ rfl a1))).trans (lN (bI rfl (bI (b2r rfl zY_ en) rfl)) rfl)⟩
  .obtain z|z:=GS.mp mn
   .exact hr _ z
   .simp at z;subst z;exact⟨_,_,rfl,Q_,Q_,m_,m_⟩
  .show zA!;rw[cX!,e];rfl
 have wu:∀{k:Str},("put"==k)=false->(k=="write")=false->(k=="cut")=false->zV!=false->(zM_) oK!=some (.rt (.tup [.str k,nm])):=λ{k} e0 w c s=>
  (aZ (gP (nX rfl w))).trans ((aZ (gP (by unfold fAnd;rw[nX rfl c];rfl))).trans ((aZ (gP (by unfold fT;rw[zX!,s];rfl))).trans (hun e0)))
 unfold KindOk at hk;obtain rfl|rfl|rfl|rfl|rfl|rfl|rfl|rfl:=hk
 .exact⟨_,ag _ (lM ((jU_).trans (lN (bI rfl (bI (b2r rfl zY_ ux) rfl)) rfl))),.put (pz _ mp1) u7⟩
 .exact⟨_,ag _ ((au!).trans (lM ((jU_).trans (lN (bI rfl (bI rfl (bI (b2r rfl (a1j rfl rfl e3) VJ) rfl))) rfl)))),.move qc (pz _ mp3) u7⟩
 all_goals first|(refine⟨_,ag _ ((au!).trans ((au!).trans (lM ((jU_).trans zY!)))),.drop qc⟩;done)|skip
 .exact⟨_,ag _ ((au!).trans ((au!).trans ((au!).trans ((jV!).trans
   (lM ((jU_).trans (lN (bI rfl (bI rfl (bI rfl (bI (fS (bI (a1j rfl rfl e5) rfl) et) rfl)))) rfl))))))),.write qc VL ht1 ht0 ht2⟩
 .have go:CG [E_,ak_,ak!,a2_,bw_,bU!,co!,jS!,e0_,some fR!,none,none]=sSeq Zd zL_ [E_,ak_,ak!,a2_,bw_,bU!,co!,jS!,e0_,some fR!,some sg,none]:=(au!).trans ((au!).trans ((au!).trans ((jV!).trans au!)));obtain rfl|⟨a,b,c,rfl,Y,h2,h3,h4,c0,c15⟩:=VL
  .exact⟨_,ag _ (go.trans ((aZ (gP z0!)).trans (lM (VM rfl)))),VN⟩
  .have hc:0<16 - c:=by omega
   have q1:0<=m0 / 12%(16 - c):=JQ _ a!;have q2:m0 / 12%(16 - c)<16 - c:=JD _ hc;exact⟨_,ag _ (go.trans (lM ((b0i z0!).trans (lN (bI rfl (bI rfl (bI rfl (bI (cH rfl (cH rfl rfl (fY hc)) rfl) rfl)))) rfl)))),.cut qc ⟨a,b,c,rfl,Y,h2,h3,h4,c0,c15⟩ a! a!⟩
 .exact⟨_,ag _ ((au!).trans ((au!).trans ((au!).trans ((jV!).trans ((au!).trans ((aZ (gP (by unfold fAnd;rw[nX (b:=false) rfl k_];rfl))).trans (lM (VM k_)))))))),VN⟩
 .exact⟨_,z1_,.undo nn⟩
 .exact⟨_,z1_,.redo nn⟩
def fJ(h:Cr d):Dd d=true:=by obtain rfl|rfl|⟨a,b,rfl,_⟩:=h<;>simp[Dd,Eg]
def vB(h:Mn d):Dd d=true:=by obtain rfl|⟨a,b,rfl,_⟩:=h<;>simp[Dd,Eg]
def sR(h:NameG d):Dd d=true:=by obtain⟨a,b,rfl,_⟩:=h;simp[Dd,Eg]
def a3k(h:Kt d):Dd d=true:=by obtain rfl|⟨a,b,c,rfl,_⟩:=h<;>simp[Dd,Eg]
def a5k(h:DG d):Dd d=true:=by
 cases h with
 |put Y h2=>simp[Dd,Eg,fJ Y,vB h2]
 |move Y h2 h3=>simp[Dd,Eg,fJ Y,fJ h2,vB h3]
 |drop Y=>simp[Dd,Eg,fJ Y]
 |write Y h2=>simp[Dd,Eg,fJ Y,a3k h2]
 |cut Y=>simp[Dd,Eg,fJ Y]
 |set Y=>simp[Dd,Eg,fJ Y]
 |undo Y=>simp[Dd,Eg,sR Y]
 |redo Y=>simp[Dd,Eg,sR Y]
abbrev Td:Ab->Option Fl:=(sSeq vw_
 (sSeq vx!
 (sSeq vx_
 (sSeq vy_
 (sSeq vA!
 vB!)))))
end K12
namespace K12
open PySem L2 DL
open Classical
inductive Vv(W:OW)(n:D):D->OW->Prop
 |put {a b:D} {a8:p_}:Cr a->Mn b->Rv W.rows n gG! b a8->Vv W n zv! eM_
 |mvY {a b c:D} {a8:p_}:Cr a->Cr b->Mn c->z3_->Rv W.rows a b c a8->Vv W n oy_ {W with rows:=a8}
 |mvN {a b c:D}:Cr a->Cr b->Mn c->¬z3_->Vv W n oy_ W
 |drY {a:D} {a8:p_}:Cr a->z4!->Rv W.rows a Db .non a8->Vv W n oA! {W with rows:=a8}
 |drN {a:D}:Cr a->¬z4!->Vv W n oA! W
 |wrt {a b:D} {s:Str} {h m:Int}:Cr a->Kt b->aO_<=16->n=.tup bV!->Vv W n (.tup oB!) (if a∈W.its then setT W a z4_ else W)
 |cut {a:D} {x y z m:Int}:Cr a->0<=z->1<=m->z+m<=16->Vv W n (.tup [.str "cut",a,.tup [.int x,.int y,.int z],.int m]) (if a∈W.its then setT W a (cutT ((List.range m.toNat).map λk=>.tup n9_) dI!)else W)
 |set {a:D} {p v:Int}:Cr a->0<=p->p<=3->Vv W n (.tup [jL!,a,.int p,.int v]) (if a∈W.its then Wz W a ((W.num a).set p.toNat (.int v))else W)
def eE(h:Cr x):∃k,De x=some k:=by
 obtain rfl|rfl|⟨a,b,rfl,_⟩:=h
 .exact I_
 .exact I_
 .exact I_
def rX(h:Mn x):∃k,De x=some k:=by
 obtain rfl|⟨a,b,rfl,_⟩:=h
 .exact I_
 .exact I_
def a8u(h:Kt x):∃k,De x=some k:=by
 obtain rfl|⟨a,b,c,rfl,_⟩:=h
 .exact I_
 .exact I_
structure Xl(W:OW)(pre:b!):Prop where
 inv:Ek W
 its:∀x∈W.its,x∈pre
 sgs:∀x∈W.its,∀q∈W.txt x,∃h n k,q.1=.tup [af_,aD_,gH!]/\D.tup od!∈pre
 chr:∀x∈W.its,∀q∈W.txt x,∃c:Nat,q.2.1=.str an!
section
def mJ{s:Str}(hq:q∈s.cps.toList.zipIdx.map jx!):∃c k:Nat,q=(.tup z6!,.str an!,true):=by obtain⟨⟨c,k⟩,_,rfl⟩:=HI.mp hq;exact⟨c,k,rfl⟩
def a6e(h n:Int):∀(cs:l!) (k0:Nat),(((z7!).map c_)).Nodup/\∀k:Nat,k<k0->D.tup z6!∉(z7!).map c_
 |[],k0=>by simp
 |c::cs,k0=>by
  obtain⟨Y,h2⟩:=a6e h n cs (k0+1);refine⟨HR.mpr ⟨h2 k0 a!,Y⟩,λk hk z=>?_⟩;obtain z|z:=GT.mp z
  .simp[sgn]at z;omega
  .exact h2 k a! z
def c3b{h m:Int}(hs:z9!)(w:Xl W pre)(hn:z9_):Xl W' Aa_:=by
 have keep:∀{V:OW},V.its=W.its->V.txt=W.txt->Ek V->Xl V Aa_:=λ{V} e1 e2 wi=>by
  refine⟨wi,G_,jY!,jY!⟩
  .rw[e1]at hx;exact GU _ Ab!
  .rw[e1]at hx;rw[e2]at hq;obtain⟨a,b,c,e,hm⟩:=w.sgs x hx q hq;exact⟨a,b,c,e,GU _ hm⟩
  .rw[e1]at hx;rw[e2]at hq;exact w.chr x hx q hq
 cases hs with
 |put y1 y2 hg=>
  rename_i a b a8;have ni:D.tup bV!∉W.its:=λz=>hn (w.its _ z);have hp:Jr W gG!:=by split;assumption;exact .inr iz_
  have im:∀x,x∈(Ac!).its↔x∈W.its\/x=.tup bV!:=λx=>by simp[Mi]
  have tx:∀x,(Ac!).txt x=if x=.tup bV! then[]else W.txt x:=λx=>rfl
  refine⟨hg.winv_put w.inv ni Ac_ hp,G_,jY!,jY!⟩
  .obtain z|rfl:=(im x).mp hx
   .exact GU _ (w.its x z)
   .simp
  .rw[tx]at hq;by_cases e:x=.tup bV!
   .rw[HC e]at hq;cases hq
   .rw[HA e]at hq;obtain⟨a,b,c,e',hm⟩:=w.sgs x Ad_ q hq;exact⟨a,b,c,e',GU _ hm⟩
  .rw[tx]at hq;by_cases e:x=.tup bV!
   .rw[HC e]at hq;cases hq
   .rw[HA e]at hq;exact w.chr x Ad_ q hq
 |mvY _ _ _ hc hg=>exact keep rfl rfl Ae!
 |mvN _ _ _ hc=>exact keep rfl rfl w.inv
 |drY _ hc hg=>exact keep rfl rfl Ae!
 |drN _ hc=>exact keep rfl rfl w.inv
 |wrt y1 y2 y3 e=>
  rename_i a b s h' m';cases e;by_cases c:a∈W.its
  .rw[HC c];obtain⟨U,v,e1,e2,e3⟩:=uT b jX! dI!;have mem:∀q,q∈wrT b jX! dI!↔q∈W.txt a\/q∈s.cps.toList.zipIdx.map jX_:=λq=>by
    rw[e2,e1];simp only[GS];constructor<;>(intro z;rcases z with(z|z)|z<;>simp[z])
   have fresh:∀x∈W.its,∀q∈W.txt x,∀k:Int,q.1≠.tup [af_,cV!,gH!]:=λx hx q hq k z=>by
    show"!W";rw[e']at z;cases z;exact hn hm
   have tx:∀x,(Ae_).txt x=if x=a then wrT b jX! dI! else W.txt x:=λx=>rfl
   have all:∀(P:eR!),(∀x∈W.its,∀q∈W.txt x,P q)->(∀q∈s.cps.toList.zipIdx.map jX_,P q)->∀x∈W.its,∀q∈(Ae_).txt x,P q:=λP Y h2 x hx q hq=>by
    rw[tx]at hq;by_cases e:x=a
    .rw[HC e]at hq;obtain z|z:=(mem q).mp hq
     .exact Y a c q z
     .exact h2 q z
    .rw[HA e]at hq;exact Y x hx q hq
   refine⟨oM w.inv c ?_ gw_ n4_,λx hx=>GU _ Ab!,all _ (λx hx q hq=>?_) gw_,all _ w.chr gw_⟩
   .rw[e2];have nd:=w.inv.snd a c;rw[e1]at nd;obtain⟨n1,_⟩:=a6e h m s.cps.toList 0;have dj:∀q∈W.txt a,∀q'∈s.cps.toList.zipIdx.map jX_,q.1≠q'.1:=λq hq q' bg=>by
     obtain⟨c',k',rfl⟩:=mJ bg;exact fresh a c q hq _
    simp only[HZ]at nd ⊢;rw[IM]at nd;rw[IM,IM];refine⟨⟨nd.1,n1,jc!⟩,nd.2.1,jc!⟩
    .obtain⟨q,hq,rfl⟩:=HI.mp hx;obtain⟨q',bg,rfl⟩:=HI.mp hy;exact dj q (by rw[e1];exact GU _ hq) q' bg
    .obtain hx|hx:=GS.mp hx
     .exact nd.2.2 x hx y hy
     .obtain⟨q',bg,rfl⟩:=HI.mp hx;obtain⟨q,hq,rfl⟩:=HI.mp hy;exact IA (dj q (by rw[e1];exact GV _ hq) q' bg)
   .obtain z|z:=(mem q).mp hq
    .exact w.inv.sg a c q z
    .obtain⟨c',k',rfl⟩:=mJ z;exact ym!
   .obtain z|z:=(mem q).mp hq
    .exact(w.inv.su a c y hy q z q' bg e).symm
    .obtain⟨c',k',rfl⟩:=mJ z;exact absurd e.symm (fresh y hy q' bg _)
   .show"!W";exact oQ!
   .obtain⟨c',k',rfl⟩:=mJ hq;exact⟨_,_,_,rfl,R_⟩
   .obtain⟨c',k',rfl⟩:=mJ hq;exact I_
  .show"##"
 |cut y1 y2 y3 y4=>
  rename_i a x y z m';by_cases c:a∈W.its
  .rw[HC c];have tx:∀v,(setT W a (cutT Ag_ dI!)).txt v=if v=a then cutT Ag_ dI! else W.txt v:=λx=>rfl
   refine⟨b0r w.inv c _,λv hv=>GU _ (w.its v hv),Ah_,Ah_⟩
   .rw[tx]at hq;split at hq
    .show"!Y";obtain⟨a',b',c',e',hm⟩:=w.sgs a c q0 h0;exact oQ!
    .obtain⟨a',b',c',e',hm⟩:=w.sgs v hv q hq;exact oQ!
   .rw[tx]at hq;split at hq
    .show"!Y";exact w.chr a c q0 h0
    .exact w.chr v hv q hq
  .show"##"
 |set y1 y2 y3=>
  rename_i a p v;by_cases c:a∈W.its
  .rw[HC c];exact keep rfl rfl (a8w w.inv (by rw[LP];exact w.inv.nl a c))
  .show"##"
end
def c4z:(Str.ofString "put"==Str.ofString "put")=true:=by decide+kernel
def a7m:(Str.ofString "move"==Str.ofString "move")=true:=by decide+kernel
def a7n:(Str.ofString "drop"==Str.ofString "drop")=true:=by decide+kernel
def b4y:(Str.ofString "write"==Str.ofString "write")=true:=by decide+kernel
def c5a:(Str.ofString "cut"==Str.ofString "cut")=true:=by decide+kernel
def c4y:(Str.ofString "set"==Str.ofString "set")=true:=by decide+kernel
section
def ifT{R:j!}(h:ft ρ=some true)(k:q1 ρ M R):At (Dg ft) q1 q2 ρ M R:=by simp only[At,Dg,h];exact k
def lU{R:j!}(h:ft ρ=some false)(k:oR_):At (Dg ft) q1 q2 ρ M R:=by simp only[At,Dg,h];exact k
def aY:(fT (f2 eqD' bJ_ (fC (.str k')))) [aa!,a0_,some j1!]=some (k==k'):=by
 have e:ixD j1! N_=some bv_:=by
  show Ai_;unfold atI Eh;simp
 simp[fT,f2,fVar,fC,e,iL]
def ix1:ixD Aj! aJ_=some a:=by show atI (D.str k::a::r) 1=_;unfold atI Eh;rw[by_,oS!];simp
def ix2:ixD Ak! cD_=some b:=by show atI (D.str k::a::b::r) 2=_;unfold atI Eh;rw[by_,oS!];simp
def ix3:ixD Ak_ b7!=some c:=by show atI (D.str k::a::b::c::r) 3=_;unfold atI Eh;rw[by_,oS!];simp
def ax1:f2 ixD K! s_ [aa!,a0_,some Aj!]=some a:=ix1
def ax2:f2 ixD K! ai_ [aa!,a0_,some Ak!]=some b:=ix2
def ax3:f2 ixD K! ac_ [aa!,a0_,some Ak_]=some c:=ix3
def av0:fVar 0 Al!=some a2!:=rfl
def av1:fVar 1 Al!=some n:=rfl
def iY{R:j!}(k:f ρ M λ_ M1=>R Z_ M1):Bb f ρ M R:=k
def sU{fo f1 f2 f3:i_}(h0:Al_)(Y:gD_)(h2:jy_)(h3:Am!)(ho:kj_)(k:g [d,a,b,c] M R):Az C m 4 g cm_ An! ρ M R:=by simp only[Az,wl,Aa,Ac,h0,Y,h2,h3];exact oj!
def c8g{fo f1 f2 f3 f4:i_}(h0:Al_)(Y:gD_)(h2:jy_)(h3:Am!)(h4:An_)(ho:kj_)(k:g [d,a,b,c,e] M R):Az C m 5 g cm_ Ao! ρ M R:=by simp only[Az,wl,Aa,Ac,h0,Y,h2,h3,h4];exact oj!
def b8j{h m:Int}(hO:aN_)(w:Xl W pre)(hn:z9_)(hs:z9!)(hB:gB_)
  (hR:∀M' O',Bo t M' o O' W' cU_->Fr M O M' O'->R .non M'):La t [ax!,.tup bV!,d] M R:=by
 have fresh:∀x∈W.its,∀k':Nat,D.tup [af_,cV!,yi_]∉(dy_).map c_:=λx hx k' z=>by
  show"#J";show"!W";rw[e']at e;cases e;exact hn hm
 refine p!;cases hs with
 |put ha hb hg=>
  show"!?";obtain⟨kb,qe⟩:=rX hb;refine ifT (aY.trans (congrArg some c4z)) ?_;exact iY (sU av0 av1 ax1 ax2 c0_ (c3m hO w.inv (λz=>hn (w.its _ z)) Ac_ fq qe hB hg hR))
 |mvY ha hb cb hc hg=>
  show"!M";exact iY (sU av0 ax1 ax2 ax3 c0_ (qX hO w.inv fq qe z5 hB λM' f1 _ fr=>hR M' O Ap! fr))
 |mvN ha hb cb hc=>
  show"!M";exact iY (sU av0 ax1 ax2 ax3 c0_ (qX hO w.inv fq qe z5 hB λM' _ f1 fr=>hR M' O (f1 hc) fr))
 |drY ha hc hg=>
  show"#!";exact iY (sU av0 ax1 rfl rfl c0_ (qX hO w.inv fq (kx:=Aq!) rfl (ks:=none) rfl hB λM' f1 _ fr=>hR M' O Ap! fr))
 |drN ha hc=>
  show"#!";exact iY (sU av0 ax1 rfl rfl c0_ (qX hO w.inv fq (kx:=Aq!) rfl (ks:=none) rfl hB λM' _ f1 fr=>hR M' O (f1 hc) fr))
 |wrt ha hb cg e=>
  cases e;show"!?";obtain⟨kb,qe⟩:=a8u hb;show"!2";refine ifT (aY.trans (congrArg some b4y)) ?_;exact iY (c8g av0 av1 ax1 ax2 ax3 c0_ (b1b hO w.inv fq qe hB cg fresh λM' f1 _ fr=>hR M' O f1 fr))
 |cut ha b5 Y h2=>
  show"!?";show"!2";refine lU C_ ?_;refine ifT (aY.trans (congrArg some c5a)) ?_;exact iY (sU av0 ax1 ax2 ax3 c0_ (c6h hO w.inv fq hB b5 Y h2 λM' f1 fr=>hR M' O f1 fr))
 |set ha Y h2=>
  show"!?";show"!2";refine lU C_ ?_;refine lU C_ ?_;refine ifT (aY.trans (congrArg some c4y)) ?_;exact iY (sU av0 ax1 ax2 ax3 c0_ (uB hO w.inv fq Y h2 λM' f1 fr=>hR M' O (f1.mono a!) fr))
def b8k{k:Str}(hk:k="undo"\/k="redo")(hR:R .non M):La t [ax!,n,.tup [.str k,a]] M R:=by
 refine p!;obtain rfl|rfl:=hk
 .show"!2";show"!2";exact hR
 .show"!2";show"!2";exact hR
end
section
def dS(b:D->Bool)(y:D->D)(c9:ck M):∀(ds:b!) (R:z7_),
  (∀d∈ds,∃aj,bnd d ρ=some aj/\(∀K:Bool->Mh->Prop,K (b d) M->ft aj M K)/\(b d=true->∀K:D->Mh->Prop,K (y d) M->fe aj M K))->R ((ds.filter b).map y) M->Pl bnd ck ft fe ρ ds M R
 |[],R,_,hR=>⟨c9,hR⟩
 |d::ds,R,h,hR=>by
  obtain⟨aj,e1,e2,e3⟩:=h d GR;refine⟨c9,?_⟩;rw[e1];refine e2 _ ?_;cases hb:b d with
  |true=>
   refine e3 hb _ (dS b y c9 ds _ oT! ?_);rw[LK hb]at hR;exact hR
  |false=>
   refine dS b y c9 ds _ oT! ?_;rw[JT (by simp[hb])]at hR;exact hR
end
structure Op where
 h:Int
 n:Int
 tm:Int
 d:D
nonrec def Op.v(o:Op):D:=.tup j4_
nonrec def Op.nm(o:Op):D:=.tup [e4!,.int o.n]
nonrec def Op.key(o:Op):Int×Int:=(o.tm,o.h)
def Mu:D->Option bS!
 |.tup [.str k,a]=>if At_ then some (k,a)else none
 |_=>none
def zM(h:DG d):(∃k a,d=.tup [.str k,a]/\(k="undo"\/k="redo")/\NameG a/\Mu d=some (k,a))\/(∃k r,d=.tup eX_/\(k=="undo")=false/\(k=="redo")=false/\Mu d=none):=by
 have uu:Au!=true:=by decide+kernel
 have rr:Au_=true:=by decide+kernel
 cases h with
 |put Y h2=>exact .inr gS!
 |move Y h2 h3=>exact .inr gS!
 |drop Y=>
  refine .inr ⟨_,_,rfl,k_,k_,?_⟩;rfl
 |write Y h2 h3 h4 h5=>exact .inr gS!
 |cut Y h2 h3 h4=>exact .inr gS!
 |set Y h2 h3 h4=>exact .inr gS!
 |undo Y=>
  refine .inl ⟨_,_,rfl,dY_,Y,?_⟩;rfl
 |redo Y=>
  refine .inl ⟨_,_,rfl,jc_,Y,?_⟩;rfl
def yX(o:Op):Ce bW!=some (.tup [gR_,e4!]):=by simp[Ce,Ip,Op.v,Bk,As,Au,aCons,aNil,f2,fVar,fC,ixD,atI,Eh]
def tG:∀ops:List Op,Ky Ce e4_=some oT_
 |[]=>rfl
 |o::r=>by
  rw[HD];unfold Ky;rw[yX,tG r];rfl
def c8o(o:Op):Gv Ce o.v=o.key:=by unfold Gv;rw[yX];rfl
def a2e{k:Av_}(h:Aw!)(x:α):∀l:List α,Qg k' (f x) fj_=(Qg k x l).map f
 |[]=>rfl
 |y::r=>by
  simp only[HD,Qg,h];split
  .rfl
  .rw[a2e h x r];rfl
def rV{k:Av_}(h:Aw!):∀l:List α,Gp k' fj_=(Gp k l).map f
 |[]=>rfl
 |x::r=>by rw[HD];unfold Gp;rw[rV h r,a2e h]
abbrev srt(ops:c!):List Op:=Gp Op.key ops
def kO(nd:j5!)(hl:j5_):Ck e5!=some (.lst j6!):=by
 have e:Yo Ce e4_=some j6!:=by
  unfold Yo;rw[tG];show(if(oT_).Nodup/\(e4_).length<64 then some _ else none)=_;rw[HC ⟨nd,jT!⟩,rV c8o]
 simp[Ck,Ny,Bk,As,Ss,fVar,e]
def pQ(h:a.Perm b)(nd:Ax!):srt a=srt b:=
 rT (jU nd) (jU ((h.map _).nodup_iff.mp nd)) ((cJ a).trans (h.trans (cJ b).symm))
def b1n(nd:Ax!):srt (srt a)=srt a:=pQ (cJ a) (((cJ a).map _).nodup_iff.mpr nd)
def c1v{o:Op}(h:DG o.d):Ao bW!=some oV!:=by
 have e3:ixD o.v b7!=some o.d:=by
  simp[Op.v,ixD,atI,Eh]
 have main:∀(k:Str) (r:b!),o.d=.tup eX_->Ao bW!=some (.bl At_):=λk r e=>by
  have e0:ixD j1! N_=some bv_:=by
   show Ai_;unfold atI Eh;simp
  have e1:∀s:Str,f2 eqD' ip_ (fC bS_) [H!]=some (.bl (k==s)):=λs=>by
   show(Az_).bind AA!=_;rw[e3,e];show((ixD j1! N_)).bind AA!=_;rw[e0];exact iL k s
  show(match As (Ds _ _) [H!]with|some (.rt d)=>some d|some (.nx _)=>some .non|none=>none)=_;unfold As Ds fT;rw[e1,e1];cases (k==Str.ofString "undo")<;>rfl
 obtain⟨k,a,e,hk,_,hu⟩|⟨k,r,e,Y,h2,hu⟩:=zM h
 .rw[main k [a] e,hu];obtain rfl|rfl:=hk
  .rw[show Au!=true by decide+kernel];rfl
  .rw[show Au_=true by decide+kernel,(show(Str.ofString "redo"==Str.ofString "undo")=false by decide+kernel)];rfl
 .rw[main k r e,hu,Y,h2];rfl
def Sa(f:Str->D):List Op->List ao_->List ao_
 |[],acc=>acc
 |o::os,acc=>match Mu o.d with
  |some (k,a)=>Sa f os (Bq acc a (f k))
  |none=>Sa f os acc
section
def sD(h:bT!)(hk:a3!)(hl:cp_):Kx M z_ y v=some gY!:=by simp[Kx,h,hk,hl]
def a9u(h:j7_):∃k,De x=some k:=by obtain⟨a,b,rfl,_⟩:=h;exact I_
def c9s:fVar 1 AB_=some z_:=rfl
def yD:∀(os:c!) (x1:D) (y:R!) (acc:p_) (ep:Nat) (M:Mh) (R:j!),AC!->gV_+V_<1000->M p=some AC_->
  (∀M' bc y',M' p=some (.dct AD! bc)->gS_->R (.nx [ag_,ah!,y']) M')->
  El en_ W! t1_ F! AB_ M R
 |[],x1,y,acc,ep,M,R,_,_,hp,hR=>⟨trivial,hR M ep y hp λb _=>rfl⟩
 |o::os,x1,y,acc,ep,M,R,hd,hl,hp,hR=>by
  refine aE!;show At (Dg _) _ _ gT! M _;have ho:=hd o GR;have et:fT (f1 Ao ca!) gT!=some (oU_).isSome:=by
   have e:f1 Ao ca! gT!=some oV!:=c1v ho;unfold fT;rw[e];rfl
  simp only[HJ]at hl;have e3:ixD o.v b7!=some o.d:=by simp[Op.v,ixD,atI,Eh]
  obtain⟨k,a,e,hk,jw,hu⟩|⟨k,r,e,Y,h2,hu⟩:=zM ho
  .rw[hu]at et;refine ifT et ?_;obtain⟨ka,pj⟩:=a9u jw;have i0:f2 ixD en! F_ gT!=some bv_:=by
    show Az_=_;rw[e3,e];show atI [D.str k,a] 0=_;simp[atI,Eh]
   have i1:f2 ixD en! s_ gT!=some a:=by
    show((Az!).bind λx=>ixD x aJ_)=_;rw[e3,e];show atI [D.str k,a] 1=_;simp[atI,Eh]
   have z6:Kx M z_ a bv_=some AF!:=by
    exact sD hp pj bf!
   have:=yD (p:=p) os x1 al! AE! AE_ AF! R oV_ (by have:=kput_len acc a bv_;omega) mup_same (λM' bc y' Y h2=>hR M' bc y' AF_ λb hb=>(oR!).trans j9!);simp only[Cg,wl,i0,i1,c9s,z6,Du];show"#-"
  .rw[hu]at et;refine lU et ?_;exact yD (p:=p) os x1 al! acc ep M R oV_ a! hp (λM' bc y' Y h2=>hR M' bc y' AF_ h2)
def jI(h:f ρ=some cg_):Ct f ρ=some ds:=by unfold Ct;rw[h];rfl
def uK(nd:j5!)(hl:j5_)(hd:oW_)
  (hR:∀p M' ep,M p=none->M' p=some (.dct ka! ep)->gS_->R z_ M'):Fc e5! M R:=by
 refine p!;intro p hp;have hi:Ct mz_ AG_=some j6!:=jI (kO nd hl);have cf:(c1!).Perm ops:=cJ ops;have:=yD (p:=p) c1! ka_ none [] 0 cq_ (λr M1=>match r with|.nx aj=>Bg o_ aj M1 jn!|.rt d=>R d M1) (λo ho=>hd o (cf.mem_iff.mp ho)) (by rw[cf.length_eq];simp;omega) mup_same (λM' ep y Y h2=>hR p M' ep hp Y λb hb=>(oR!).trans j9!);show Ad (Bs (Hc _) _ _) _ AG_ _ _;simp only[Ad,Bs,Hc,hi,Du];show"#-"
def t2(ha:∀K':D->Mh->Prop,K' d M->fa ρ M K')(hb:fb ρ=some v)(hg:g d v=some aI!)(k:K b M):wT (w2 oP_ fa (wl fb)) ρ M K:=by refine ha _ ?_;simp only[wl,hb,hg];exact k
def Undn(wd:p_)(o:Op):Prop:=Mu o.d=none/\kget wd o.nm=some em_
def a0g(o:Op):Ay o.v none (some 2)=some o.nm:=by simp[Op.v,Op.nm,Ay,Cf,HT.sIx]
def b3s(o:Op):∃k,De o.nm=some k:=I_
def a5w(sy:p≠q):∀(os:c!) (x1:D) (y z:R!) (acc:p_) (ep:Nat) (M:Mh) (R:j!),AC!->gV_+V_<1000->M p=some (.dct wd e0)->M q=some AC_->(∀x v,kget wd x=some v->∃k:Str,v=.str k)->
  (∀M' bc y' z' jz,M' q=some AH!->(∀x,kget jz x≠none↔(kget acc x≠none\/∃o∈os,o.nm=x/\Undn wd o))->AH_->R (.nx [ag_,ah!,a5_,y',z']) M')->
  El am_ W! ir! F! [ag_,ah!,a5_,y,z] M R
 |[],x1,y,z,acc,ep,M,R,_,_,hp,hq,z7,hR=>⟨trivial,hR M ep y z acc hq AI! λb _=>rfl⟩
 |o::os,x1,y,z,acc,ep,M,R,hd,hl,hp,hq,z7,hR=>by
  refine aE!;show Ad (Ai 4 _) _ AI_ M _;have ho:=hd o GR;simp only[HJ]at hl;have es:Dj T_ Al bn! AI_=some o.nm:=a0g o;simp only[Ad,Ai,wl,es];show At _ _ _ c2! M _;have et:By t4! c2!=some (!(oU_).isSome):=by
   have e:f1 Ao iq_ c2!=some oV!:=c1v ho;unfold By fT;rw[e];rfl
  obtain⟨kn,jy⟩:=b3s o;have next:∀(c:Prop),(c↔Undn wd o)->∀jz bc M',M' q=some AH!->(∀x,kget jz x≠none↔(kget acc x≠none\/(x=o.nm/\c)))->jz.length<=gV_+1->AH_->
    El am_ W! ir! F! c2! M' R:=λc hc jz bc M' Y h2 h3 h4=>by
   refine a5w (p:=p) (q:=q) (wd:=wd) (e0:=e0) sy os x1 _ _ jz bc M' R oV_ a! ((h4 p sy).trans hp) Y z7 λM2 gg y2 z2 acc2 g1 g2 g3=>hR M2 gg y2 z2 acc2 g1 oX! λb hb=>(g3 b hb).trans (h4 b hb);rw[g2,h2];show"!|"
   .rintro((u|⟨u1,u2⟩)|⟨o',u1,u2,u3⟩)
    .exact .inl u
    .exact .inr ⟨o,GR,u1.symm,hc.mp u2⟩
    .exact .inr ⟨o',GO _ u1,u2,u3⟩
   .rintro(u|⟨o',u1,u2,u3⟩)
    .exact .inl (.inl u)
    .obtain rfl|u1:=GT.mp u1
     .exact .inl (.inr ⟨u2.symm,hc.mpr u3⟩)
     .exact .inr ⟨o',u1,u2,u3⟩
  have no:(¬Undn wd o)->El am_ W! ir! F! c2! M R:=λh=>next False (by simp[h]) acc ep M hq AI! a! λb _=>rfl;cases hu:Mu o.d with
  |some u=>
   rw[hu]at et;simp only[At,Gh,Dg,et];exact no λz=>by rw[z.1]at hu;cases hu
  |none=>
   rw[hu]at et;simp only[At,Gh,Dg,et];have hg:∀(K:t_),K AJ! M->Ma o_ O_ c2! M K:=λK hK=>by
    have c1:Dl M z_=some (p,wd,e0):=by simp[Dl,hp]
    show Du (Dl M z_) λ_=>Du (Dl M z_) λq=>Du (De o.nm) λ_=>K ((kget q.2.1 o.nm).getD .non) M;rw[c1,jy];exact hK
   have hsd:Sd AJ!:=by
    cases e:kget wd o.nm with
    |none=>exact .inl rfl
    |some v=>obtain⟨k,rfl⟩:=z7 _ _ e;exact wZ k
   have VO:(oX_).getD .non=.str "undo"↔Undn wd o:=by
    unfold Undn;rw[hu];cases e:kget wd o.nm with
    |none=>simp
    |some v=>simp
   refine t2 hg (v:=oB_) rfl (c0n hsd (wZ _)) ?_;by_cases c:(oX_).getD .non=.str "undo"
   .rw[HF c];have z6:=sD (y:=o.nm) (v:=d1_) hq jy bf!;have f2:fVar 2 c2!=some c1_:=rfl;have f4:fVar 4 c2!=some o.nm:=rfl;simp only[Cg,wl,fC,f2,f4,z6,Du];refine next True (by simp[<-VO,c]) _ _ _ mup_same oX! gp_ λb hb=>mup_ne hb;by_cases e:o.nm=x
    .subst e;rw[lG];simp
    .rw[pX e];simp[IA e]
   .rw[HB c];exact no λz=>c (VO.mpr z)
def wU:∀(os:c!) (acc:p_),(∀x v,kget acc x=some v->∃k:Str,v=.str k)->∀x v,kget AD! x=some v->∃k:Str,v=.str k
 |[],acc,h=>h
 |o::os,acc,h=>by
  unfold Sa;cases e:Mu o.d with
  |none=>exact wU os acc h
  |some q=>
   obtain⟨k,a⟩:=q;refine wU os _ λx v hx=>?_;by_cases c:a=x
   .subst c;rw[lG]at hx;cases hx;exact⟨k,rfl⟩
   .rw[pX c]at hx;exact h x v hx
def a8q(nd:j5!)(hl:j5_)(hd:oW_)
  (hR:∀q M' ep kq,M q=none->M' q=some (.dct kq ep)->(∀x,kget kq x≠none↔∃o∈ops,o.nm=x/\Undn ka! o)->a6!->R c1_ M'):Js e5! M R:=by
 refine p!;have hc:∀(K:t_),Fc e5! M K->Ap 1 Fc bI_ AK! M K:=λK h=>eN_;refine hc _ (uK nd hl hd λp M1 ep hp hM1 fr=>?_);intro q hq;have sy:p≠q:=λz=>by rw[<-z,hM1]at hq;cases hq
 have qf:M q=none:=by rw[<-fr q (IA sy)];exact hq
 have hi:Ct k! [gT_,ah!,a5_,none,none]=some e4_:=rfl;refine a5w (wd:=AL_) (e0:=ep) sy ops ka_ none none [] 0 _ _ hd cA! ((mup_ne sy).trans hM1) mup_same (wU _ [] λx v h=>by simp[kget]at h) λM' bc y' z' jz Y h2 h3=>?_;refine hR q M' bc jz qf Y oX! λb hb=>?_
 .rw[h2];simp[kget]
 .have b1:b≠q:=λz=>hb (by rw[z];exact qf);have b2:b≠p:=λz=>hb (by rw[z];exact hp);rw[h3 b b1,mup_ne b1,fr b b2]
end
def W0:OW:=⟨[],[],λ_=>[],λ_=>[]⟩
def c9c:Xl W0 []:=by refine⟨⟨by simp[W0],c2_,by simp[W0],λx=>by simp[W0],AM_,⟨oY!,AM_⟩,c2_,c2_,c2_,c2_⟩,c2_,c2_,c2_⟩
section
section
def bM(h:ci_)(K:t_):wl f ρ M K=K d M:=by simp only[wl,h]
def CJ(C:yz!)(x:Str)(fo:i_)(ρ:Ab)(y:D)(M:Mh)(Q:dL!):Prop:=wl fo ρ M λd M2=>match d with
 |.fn p=>(match M2 p with|some (.obj C' fs)=>C'=C/\a8_<100/\Q Bc_|_=>False)
 |_=>False
def mK{R:j!}(h:f ρ M λy M1=>CJ C x fo ρ y M1 λM2=>R Z_ M2):Ez C x cm_ f ρ M R:=h
def jV{R:j!}(h:f ρ M λy M1=>CJ C x fo ρ y M1 λM2=>q ρ M2 R):Ad (Ez C x cm_ f) q ρ M R:=h
def gB(h0:kb_)(hM:M p=some oi!)(hl:a8_<100)(hf:Gu x y fs=fs')(k:Q (mup M p (.obj C fs'))):CJ C x fo ρ y M Q:=by unfold CJ;rw[bM h0];show(match M p with|some (.obj C' fs)=>C'=C/\a8_<100/\Q (mup M p Bc!)|_=>False);rw[hM];subst hf;exact⟨rfl,hl,k⟩
end
def pc{R:AW!}(h:fa ρ=some x)(k:fb ρ M λy M2=>fp ρ M2 λσ M3=>R ((x,y)::σ) M3):Hl e6_ fb fp ρ M R:=by simp only[Hl,wl,h];exact k
def a4p{α β:Type}{f:α->β}:∀{l:ad_},(fj_).Nodup->∀{x y:α},x∈l->y∈l->f x=f y->x=y
 |[],_,_,_,h,_,_=>by cases h
 |a::l,nd,x,y,hx,hy,e=>by
  rw[HD,HR]at nd;obtain Y|Y:=GT.mp hx<;>obtain h2|h2:=GT.mp hy
  .rw[Y,h2]
  .exact absurd (by rw[<-Y,e];exact HH h2) nd.1
  .exact absurd (by rw[<-h2,<-e];exact HH Y) nd.1
  .exact a4p nd.2 Y h2 e
structure HL(M0 M:Mh)(l:AO!):Prop where
 cell:∀q∈l,M q.1=some q.2
 nd:(cZ_).Nodup
 fr:∀q∈l,M0 q.1=none
 kp:∀b,M0 b≠none->M b=M0 b
variable{M0:Mh}
def HL.new(h:HL M0 M l)(hb:M b=none):HL M0 (mup M b c) ((b,c)::l):=by
 have h0:M0 b=none:=IJ λz=>z ((h.kp b z).symm.trans hb);refine⟨c3!,HR.mpr ⟨dH_,h.nd⟩,c3!,λa ha=>(mup_ne (cZ ha h0)).trans (h.kp a ha)⟩
 .obtain rfl|hq:=GT.mp hq
  .exact mup_same
  .exact(mup_ne (cZ (by rw[h.cell q hq];simp) hb)).trans (h.cell q hq)
 .show"#J";have:=h.cell q hq;rw[e,hb]at this;cases this
 .obtain rfl|hq:=GT.mp hq
  .exact h0
  .exact h.fr q hq
def HL.put(h:HL M0 M (u++(b,c0)::v)):HL M0 (mup M b c) (u++(b,c)::v):=by
 have nd:=h.nd;rw[HZ,HD]at nd;have p:(u.map c_++b::v.map c_).Perm (b::(u.map c_++v.map c_)):=OM;have nb:=(HR.mp (p.nodup_iff.mp nd)).1;have ob:∀q,q∈u++v->mup M b c q.1=M q.1:=λq hq=>mup_ne λz=>nb (by rw[<-z,<-HZ];exact HH hq);have bg:∀{c q},q∈u++(b,c)::v->q=(b,c)\/q∈u++v:=λ{c q} hq=>by simpa[or_left_comm]using hq
 have mz:∀q,q∈u++v->q∈u++(b,c0)::v:=λq hq=>GS.mpr ((GS.mp hq).imp_right (GO _));have wf:=h.fr (b,c0) d_;refine⟨c3!,by rw[HZ,HD];exact nd,c3!,λa ha=>(mup_ne (cZ ha wf)).trans (h.kp a ha)⟩
 .obtain rfl|z:=bg hq
  .exact mup_same
  .exact(ob q z).trans (h.cell q (mz q z))
 .obtain rfl|z:=bg hq
  .exact wf
  .exact h.fr q (mz q z)
def HL.row(h:HL M0 M l)(z1:M r=none)(z2:M f=none)(z3:M p=none)(n1:r≠f)(n2:r≠p)(hr:Hk t M' r f p [])(fr:∀b,b≠r->b≠f->b≠p->M' b=M b):∃kf ef kp ep,Ft [] kf/\Ft [] kp/\HL M0 M' AU_:=by
 obtain⟨kf,ef,kp,ep,hf,hp,K,Kp⟩:=hr.dc;have h3:HL M0 _ AU_:=((h.new (c:=.dct kp ep) z3).new (c:=.dct kf ef) ((mup_ne hr.ne).trans z2)).new (c:=.obj t.B7 nG_) ((mup_ne n1).trans ((mup_ne n2).trans z1));refine⟨kf,ef,kp,ep,K,Kp,?_⟩;have e:∀a,M' a=mup (mup (mup M p w5!) f w6!) r nH! a:=λa=>by
  by_cases c1:a=r
  .rw[c1,mup_same];exact hr.ob
  .rw[mup_ne c1];by_cases c2:a=f
   .rw[c2,mup_same];exact hf
   .rw[mup_ne c2];by_cases c3:a=p
    .rw[c3,mup_same];exact hp
    .rw[mup_ne c3];exact fr a c1 c2 c3
 rw[show M'=_ from funext e];exact h3
def c2d:[root,Db].Nodup:=HR.mpr ⟨by rw[GZ];exact b2c,R_⟩
def c1x:∀q∈o2!,(De q.1).isSome=true:=λq hq=>by
 obtain rfl|hq:=GT.mp hq
 .rfl
 .rw[GZ.mp hq];rfl
def a3p{R:j!}(h:q1 ρ M λr M1=>match r with|.nx bd=>q2 bd M1 R|.rt d=>R af! M1):Ad q1 q2 ρ M R:=h
def a6f{fs':Addr->List bS!}{R:j!}(L:HL M0 M (u++[(o,.obj C fs)]))(h0:yz_)(hl:a8_<100)(hf:∀a,Gu x cg! fs=fs' a)(k:∀a M',HL M0 M' (AV!::u++[(o,.obj C (fs' a))])->R Z_ M'):Ez C x cm_ Hh ρ M R:=mK λa ha=>by
 have L1:=L.new (c:=o3!) ha;exact gB (fs:=fs) (fs':=fs' a) h0 (L1.cell (o,_) d_) hl (hf a) (k a _ (L1.put (u:=AV!::u) (c:=.obj C (fs' a))))
def cI{α:Type}{l:ad_}{a:α}(i:Nat)(h:l[i]?=some a):a∈l:=MJ h
def c4k{M':Mh}{f1 f2:yz!}{kf2:p_}{VP ux VQ gg:Nat}(L:HL M M' [(a6,.dct [] 0),(a5,.dct [] 0),(a4,.dct [] 0),(a3,.dct [] 0),(r2,.obj t.B7 [("following",.fn f2),("preceding",.fn p2)]),(f2,.dct kf2 VQ),(p2,.dct um gg),(r1,.obj t.B7 [("following",.fn f1),("preceding",.fn p1)]),(f1,.dct VR VP),(p1,.dct VS ux),(a2,.dct AW_ 2),(a1,.dct AX_ 2),(o,.obj t.B6 bu!)])(c1:Ft [] VR)(c2:Ft [] VS)(c3:Ft [] kf2)(c4:Ft [] um):∃O,Bo t M' o O W0 2/\∀b,M b≠none->M' b=M b/\¬O b:=by
 let ad:Sw->Addr
  |.ob=>o
  |.par=>a1
  |.dir true=>a2
  |.dir false=>a3
  |.nums=>a4
  |.wri=>a5
  |.hid=>a6
  |.row x _=>if x=root then r1 else r2
  |.fol x _=>if x=root then f1 else f2
  |.pre x _=>if x=root then p1 else p2
  |.nm _=>o
 have br:¬Db=root:=IA b2c;have hl:(AY!).map ad=[a6,a5,a4,a3,r2,f2,p2,r1,f1,p1,a2,a1,o]:=by
  simp only[HD,LZ,ad,HA br,JN]
 have d:∀{x:D} {b:Bool},(Iy W0).dm b x->b=true/\(x=root\/x=Db):=λ{x b} l=>by
  cases b with
  |true=>exact⟨rfl,Or.resolve_left l λz=>by cases z⟩
  |false=>cases l
 have lm:∀r,Ii (Iy W0) r->r∈AY!:=λr l=>by
  cases r with
  |row x b=>obtain⟨rfl,rfl|rfl⟩:=d l;exact cI 7 rfl;exact cI 4 rfl
  |fol x b=>obtain⟨rfl,rfl|rfl⟩:=d l;exact cI 8 rfl;exact cI 5 rfl
  |pre x b=>obtain⟨rfl,rfl|rfl⟩:=d l;exact cI 9 rfl;exact cI 6 rfl
  |nm x=>cases l
  |dir b=>cases b;exact cI 3 rfl;exact cI 10 rfl
  |ob=>exact cI 12 rfl
  |par=>exact cI 11 rfl
  |nums=>exact cI 2 rfl
  |wri=>exact cI 1 rfl
  |hid=>exact cI 0 rfl
 have nd:=L.nd;have z8:∀{l:AO!},HL M M' l->∀a∈l.map c_,M a=none:=λL a ha=>by obtain⟨q,hq,rfl⟩:=HI.mp ha;exact L.fr q hq
 have A1:ad (.row root true)=r1:=HC rfl;have A2:ad (.row Db true)=r2:=HA br;have A3:ad AZ!=f1:=HC rfl;have A4:ad AZ_=f2:=HA br;have A5:ad A0!=p1:=HC rfl;have A6:ad A0_=p2:=HA br;have kr:∀{y z:D},kget o2! root=some y:=HC rfl;have kb:∀{y z:D},kget o2! Db=some z:=(HA b2c).trans ok_;refine⟨Uj ad (Iy W0),⟨ad,rfl,zb!,λr l=>?_,λr r' l l'=>a4p (by rw[hl];exact nd) (lm r l) (lm r' l')⟩,λb hb=>⟨L.kp b hb,λ⟨r,l,e⟩=>?_⟩⟩
 .have hc:=L.cell;cases r with
  |ob=>exact⟨_,hc _ (cI 12 rfl),rfl⟩
  |par=>exact⟨_,hc _ (cI 11 rfl),_,_,rfl,HK 2,kr,kb,λi p h=>by cases h⟩
  |dir b=>
   cases b with
   |true=>
    refine⟨_,hc _ (cI 10 rfl),_,_,rfl,HK 2,λx=>⟨dJ_,dJ_⟩⟩
    .obtain⟨_,rfl|rfl⟩:=d h
     .rw[A1];exact kr
     .rw[A2];exact kb
    .exact(HA λz=>h (.inr (.inl z.symm))).trans (HA λz=>h (.inr (.inr z.symm)))
   |false=>exact⟨_,hc _ (cI 3 rfl),_,_,rfl,IF 2,λx=>⟨λh=>dK!,bF!⟩⟩
  |nums=>exact⟨_,hc _ (cI 2 rfl),_,_,rfl,IF 2,A1_⟩
  |wri=>exact⟨_,hc _ (cI 1 rfl),_,_,rfl,IF 2,λs v ⟨x,h,_⟩=>by cases h⟩
  |hid=>exact⟨_,hc _ (cI 0 rfl),_,_,rfl,IF 2,λs=>⟨λh=>dK!,λ⟨x,h,_⟩=>by cases h⟩⟩
  |row x b=>
   show"#B"
   .exact⟨_,by rw[A1];exact hc _ (cI 7 rfl),by show _=Jy.obj _ [(_,.fn (ad AZ!)),(_,.fn (ad A0!))];rw[A3,A5]⟩
   .exact⟨_,by rw[A2];exact hc _ (cI 4 rfl),by show _=Jy.obj _ [(_,.fn (ad AZ_)),(_,.fn (ad A0_))];rw[A4,A6]⟩
  |fol x b=>
   show"#B"
   .exact⟨_,by rw[A3];exact hc _ (cI 8 rfl),IF 2,_,_,rfl,c1⟩
   .exact⟨_,by rw[A4];exact hc _ (cI 5 rfl),IF 2,_,_,rfl,c3⟩
  |pre x b=>
   show"#B"
   .exact⟨_,by rw[A5];exact hc _ (cI 9 rfl),IF 2,_,_,rfl,c2⟩
   .exact⟨_,by rw[A6];exact hc _ (cI 6 rfl),IF 2,_,_,rfl,c4⟩
  |nm x=>cases l
 .have:=HH (f:=ad) (lm r l);rw[hl,e]at this;exact hb (z8 L b this)
def xZ(hR:∀o O M',M o=none->Bo t M' o O W0 2->(∀b,M b≠none->M' b=M b/\¬O b)->R a2! M'):Fx t.B6 1 (Gj t) Ac ρ M R:=by
 refine⟨rfl,λo ho=>p!⟩;have L:HL M (mup M o A3_) [(o,.obj t.B6 [])]:=HL.new (l:=[]) ⟨A4!,KZ,A4!,sq!⟩ ho;generalize mup M o A3_=M1 at L ⊢;refine jV λa1 ha1=>⟨mup_same,o5!,c1x,c2d,?_⟩
 replace L:=(L.new (c:=o3!) ha1).put (u:=[]) (c:=.dct AX_ 2)
 generalize mup (mup _ _ _) a1 _=M2 at L ⊢;refine gB (fs:=[]) (fs':=[cl!]) rfl (L.cell (o,_) (cI 1 rfl)) b_ fI! ?_
 replace L:=L.put (u:=[_]) (c:=.obj t.B6 [cl!])
 generalize mup _ o _=M3 at L ⊢;refine jV λa2 ha2=>?_
 replace L:=L.new (c:=o3!) ha2
 refine pc rfl (sT λr1 f1 p1 N1 z1 z2 z3 n1 n2 R1 _ K1=>?_);obtain⟨VR,VP,VS,ux,c1,c2,L⟩:=L.row z1 z2 z3 n1 n2 R1 K1;clear z1 z2 z3 n1 n2 R1 K1;refine pc rfl (sT λr2 f2 p2 N2 z1 z2 z3 n1 n2 R2 _ K2=>?_);obtain⟨kf2,VQ,um,gg,c3,c4,L⟩:=L.row z1 z2 z3 n1 n2 R2 K2;refine⟨L.cell (a2,_) (cI 6 rfl),o5!,c1x,c2d,?_⟩
 replace L:=L.put (u:=[_,_,_,_,_,_]) (c:=.dct AW_ 2)
 generalize mup _ a2 _=M4 at L ⊢;refine gB (fs:=[cl!]) (fs':=[cl!,eO!]) rfl (L.cell (o,_) (cI 8 rfl)) A5_ fI! ?_
 replace L:=L.put (u:=A6_) (c:=.obj t.B6 [cl!,eO!])
 generalize mup _ o _=M5 at L ⊢;refine a3p (a6f (u:=A6_) (fs':=λa=>[cl!,eO!,("texts",.fn a)]) L rfl (by show 2<100;decide) cS! λa3 M6 L=>?_);refine a3p (a6f (u:=[_,_,_,_,_,_,_,_,_]) (fs':=λa=>[cl!,eO!,nQ_,("numbers",.fn a)]) L rfl (by show 3<100;decide) cS! λa4 M7 L=>?_);refine a3p (a6f (u:=[_,_,_,_,_,_,_,_,_,_]) (fs':=λa=>[cl!,eO!,nQ_,xt_,("written",.fn a)]) L rfl kf_ cS! λa5 M8 L=>?_);refine a6f (u:=[_,_,_,_,_,_,_,_,_,_,_]) (fs':=oF a1 a2 a3 a4 a5) L rfl (by show 5<100;decide) cS! λa6 M' L=>?_;obtain⟨O,Y,h2⟩:=c4k L c1 c2 c3 c4;exact⟨rfl,hR o O M' ho Y h2⟩
end
inductive Yf:OW->List Op->OW->Prop
 |nil {W:OW}:Yf W [] W
 |cons {W W1 W2:OW} {o:Op} {os:c!}:Vv W o.nm o.d W1->Yf W1 os W2->Yf W gX! W2
def Tp(wd:p_)(os:c!):List Op:=os.filter λo=>decide (Mu o.d=none/\¬kget wd o.nm=some em_)
section
def EA(t:Bl):WS:=Ad fY_ uf!
def a6n{ops:c!}(hq:∀x∈ops,kget kq x.nm≠none↔Undn wd x):∀(os:c!) (x1:D) (y z:R!) (M:Mh) (O:bg_) (W W':OW) (pre:b!) (B:Nat) (R:j!),
  (∀x∈os,x∈ops/\DG x.d)->(∀x∈os,x.nm∉pre)->(A8!).Nodup->Bo t M o O W B->Xl W pre->Yf W (Tp wd os) W'->B+20*V_<3900->M q=some (.dct kq e0)->¬O q->
  (∀M' O' y' z',Bo t M' o O' W' (B+20*V_)->(∃pre',Xl W' pre')->Fr M O M' O'->R (.nx [ag_,aa!,a5_,y',z']) M')->
  El am_ W! (EA t) F! [ag_,aa!,a5_,y,z] M R
 |[],x1,y,z,M,O,W,W',pre,B,R,_,_,_,hO,w,hr,_,_,_,hR=>by
  cases hr;exact⟨trivial,hR M O y z hO ⟨pre,w⟩ .refl⟩
 |x::os,x1,y,z,M,O,W,W',pre,B,R,hd,hp,nd,hO,w,hr,hB,qf,wv,hR=>by
  refine aE!;show Ad (Ai 4 _) _ A8_ M _;obtain⟨hx,pi⟩:=hd x GR;simp only[HJ]at hB hR;rw[HD,HR]at nd;have es:Dj T_ Al bn! A8_=some x.nm:=a0g x;obtain⟨kn,jy⟩:=b3s x;have hin:Kz true M x.nm c1_=some (.bl (!(kget kq x.nm).isSome)):=by simp[Kz,qf,jy]
  have f4:fVar 4 dK_=some x.nm:=rfl;have ww:fVar 2 dK_=some c1_:=rfl;have f1':fVar 1 dK_=some a2!:=rfl;have f3':f2 ixD T_ ac_ dK_=some x.d:=by
   show ixD x.v b7!=_;simp[Op.v,ixD,atI,Eh]
  show At mH_ _ _ dK_ M _;simp only[At,wT,w2,wl,f4,ww,hin];have hu:=hq x hx;have rest:∀(M1:Mh) (s9:bg_) (W1:OW) (wx:b!),Bo t M1 o s9 W1 cU_->Xl W1 wx->(∀y∈os,y.nm∉wx)->Yf W1 (Tp wd os) W'->Fr M O M1 s9->El am_ W! (EA t) F! dK_ M1 R:=λM1 s9 W1 wx Y h2 h3 h4 h5=>
   a6n (o:=o) (q:=q) (kq:=kq) (wd:=wd) (e0:=e0) hq os x1 (some x.v) e7_ M1 s9 W1 W' wx cU_ R (λy hy=>hd y cL!) h3 nd.2 Y h2 h4 a! ((A9!).1.trans qf) (A9!).2 (λM' O' y' z' g1 g2 g3=>hR M' O' y' z' (by rw[show B+20*(os.length+1)=B+20+20*os.length by omega];exact g1) g2 (h5.trans g3))
  by_cases c:kget kq x.nm=none
  .rw[c,ga!];have hc:∀(K:t_),La t [ax!,x.nm,x.d] M K->Ap 3 (La t) ue_ dK_ M K:=λK h=>by
    exact eN_
   refine iY (hc _ ?_);obtain⟨k,a,e,hk,_,wz⟩|⟨k,r,e,_,_,wz⟩:=zM pi
   .have:Tp wd (x::os)=Tp wd os:=by unfold Tp;rw[JT (by simp[wz])]
    rw[this]at hr;rw[e];exact b8k hk (rest M O W pre oh_ w Bb_ hr .refl)
   .have hne:¬kget wd x.nm=some em_:=λz=>absurd c (hu.mpr ⟨wz,z⟩);have:Tp wd (x::os)=x::Tp wd os:=by unfold Tp;rw[LK (by simp[wz,hne])]
    rw[this]at hr;cases hr with
    |cons hs hr=>
     have w1:=c3b hs w (hp x GR);refine b8j hO w (hp x GR) hs a! λM1 s9 Y h2=>rest M1 s9 _ _ Y w1 (λy hy z=>?_) hr h2;obtain z|z:=GS.mp z
     .exact hp y cL! z
     .rw[GZ]at z;exact nd.1 (by rw[show Op.nm x=Op.nm y from z.symm];exact HH hy)
  .have hU:=hu.mp c;obtain⟨v,hv⟩:=Option.ne_none_iff_exists'.mp c;rw[hv,L_];have:Tp wd (x::os)=Tp wd os:=by unfold Tp;rw[JT (by simp[hU.1,hU.2])]
   rw[this]at hr;exact rest M O W pre oh_ w Bb_ hr .refl
def a9d{ops:c!}(nd:j5!)(nn:(ops.map Op.nm).Nodup)(hl:j5_)(hd:oW_)(hr:Yf W0 (Tp ka! c1!) W')
  (hR:∀o M' O',M o=none->Bo t M' o O' W' 1500->(∃pre,Xl W' pre)->(∀b,M b≠none->M' b=M b/\¬O' b)->R a2! M'):Hy t e5! M R:=by
 refine p!;show Ad ud_ _ AK! M _;simp only[Ad,Ai];refine xZ λo O M1 ho hO fr=>?_;have hc:∀(K:t_),Js e5! M1 K->Ap 1 Js bI_ [gT_,aa!,none,none,none] M1 K:=λK h=>eN_;refine hc _ (a8q nd hl hd λq M2 ep kq hq gw hkq gj=>?_);have hi:Ct mz_ Be!=some j6!:=jI (kO nd hl);show Bs (Hc _) _ (EA t) Be! M2 _;simp only[Bs,Hc,hi,Du];have hp:(c1!).Perm ops:=cJ ops;have wv:¬O q:=λz=>hO.live z hq;have hO2:Bo t M2 o O W0 2:=hO.keep λc hc=>gj c (hO.live hc);have wu:∀x∈ops,kget kq x.nm≠none↔Undn ka! x:=λx hx=>by
  rw[hkq];show"!|"
  .rintro⟨y,hy,e,hu⟩;have:y=x:=a4p nn hy hx e;rw[<-this];exact hu
  .exact λh=>⟨x,hx,rfl,h⟩
 refine a6n (t:=t) (wd:=AL_) (e0:=ep) (ops:=ops) wu c1! ka_ none none M2 O W0 W' [] 2 _ (λx hx=>⟨hp.mem_iff.mp hx,hd x (hp.mem_iff.mp hx)⟩) (λx _=>by simp) ((kh!).nodup_iff.mpr nn) hO2 c9c hr Be_ gw wv λM' O' y' z' g1 g2 g3=>?_;refine hR o M' O' ho (g1.mono Be_) g2 λb hb=>?_;obtain⟨e1,e2⟩:=fr b hb;have e3:=gj b xG_;have g4:=g3 b (by rw[e3,e1];exact hb) e2;exact⟨by rw[g4.1,e3,e1],g4.2⟩
end
def Pu(f:WE)(ρ:Ab)(M:Mh)(d:D):Prop:=∀K:D->Mh->Prop,K d M->f ρ M K
def Pe(f:WT)(ρ:Ab)(M:Mh)(b:Bool):Prop:=∀K:Bool->Mh->Prop,K b M->f ρ M K
def Wj(g:WF)(ds:b!)(M:Mh)(d:D):Prop:=∀K:D->Mh->Prop,K d M->g ds M K
section
def dF(h:R x):Du lB_ R:=h
def aV(h:ci_):Pu (wl f) ρ M d:=λK hK=>by rw[bM h];exact hK
def dZ(h:Pu fo ρ M cg!)(hM:M a=some oi!)(hv:fs.lookup x=some v):Pu (An C x fo) ρ M v:=λK hK=>by
 refine h _ ?_;have:Ic C x M cg!=some v:=by simp only[Ic,hM,JN,hv]
 rw[this];exact hK
def eK(ha:Pu fa ρ M x)(hb:Pu fb ρ M y)(hg:g M x y=some d):Pu (w2 g fa fb) ρ M d:=λK hK=>by
 refine ha _ (hb _ ?_);rw[hg];exact hK
def jX(ho:Bf_)(ha:Pu fa ρ M y)(hb:Pu fb ρ M z)(hp:bT!)(hk:a3!)(hd:(kget σ y).getD z=d):Pu AR! ρ M d:=λK hK=>by
 have c:Dl M z_=some oY_:=by simp[Dl,hp]
 refine ho _ ?_;rw[c];refine ha _ (hb _ ?_);rw[c,hk];show K ((kget σ y).getD z) M;rw[hd];exact hK
def lJ(h:Pu f ρ M x)(hg:g M [x]=some d):Pu (w1 g (Aa f Ac)) ρ M d:=λK hK=>by
 refine h _ ?_;show Du (g M [x]) λd=>K d M;rw[hg];exact hK
def sE{f1:WE}(Y:o8_)(hg:Wj g [a] M d):Pu (Ap 1 g (Aa f1 Ac)) ρ M d:=λK hK=>by
 exact Y _ o9!
def iV{f1 f2:WE}(Y:o8_)(h2:Pu f2 ρ M b)(hg:Wj g aJ! M d):Pu (Ap 2 g Bh!) ρ M d:=λK hK=>by
 exact Y _ (h2 _ o9!)
def iU{fo f1:WE}(h0:Pu fo ρ M a2!)(ho:Dh C m M a2!)(Y:o8_)(hg:Wj g [ax!,a] M d):Pu (Az C m 2 g fo (Aa f1 Ac)) ρ M d:=λK hK=>by
 exact h0 _ ⟨ho,Y _ o9!⟩
def jB(h:Pu f ρ M aI!):Pe (wT f) ρ M b:=λK hK=>by unfold wT;exact h _ hK
def dU(h:f ρ=some b):Pe (Dg f) ρ M b:=λK hK=>by unfold Dg;rw[h];exact hK
def c3o(h:Pe f ρ M b):Pe (Mt f) ρ M (!b):=λK hK=>by unfold Mt;exact h _ hK
def eL(h:gY_)(k:q bs! M R):Ad kg! q ρ M R:=by exact h _ k
def dG(h:gY_)(k:R af! M):Bg f ρ M R:=by unfold Bg;exact h _ k
def eM(h:e8!)(k:q1 ρ M R):At ft q1 q2 ρ M R:=by refine h _ ?_;rw[A!];exact k
def iO(h:Bi_)(k:oR_):At ft q1 q2 ρ M R:=by refine h _ ?_;rw[L_];exact k
def fE(h:Bi_)(k:oR_):Ad Bj! q2 ρ M R:=by exact iO h k
def b1l(h:gO!)(hl:zR_):Au fs ρ=some cO!:=by unfold Au;rw[h];show zS!=_;rw[zS_]
end
end K12
namespace K12
open PySem L2 DL
abbrev Uo:Nat:=1000000000000000000000000000000000000000000000000000000000000
def rE(h:cB!<Uo):Dx [b2!]=some u_:=by
 have:h2!<1000000000000000000000000000000000000000000000000000000000000:=by unfold Uo at h;split<;>omega
 push_cast[Dx,Nu,this]
def rF(h:cB!<Uo)(h0:0<=i)(Y:i<k):Es [b2!,gH!]=some u_:=by push_cast[Es,Nx,rE h,h0,Y]
def zK(h:cB!<Uo)(Y:1<=i):Ca [b2!]=some u_:=by push_cast[Ca,Ho,rE h,Y]
def pK(h:j7_):Ch [x]=some u_:=by
 obtain⟨a,b,rfl,Y,h2,h3,h4⟩:=h
 push_cast[Ch,Jz,rF (i:=a) (k:=16) e8_ Y h2,zK (i:=b) e8_ h3]
def pZ(h:Vw x):Cy [x]=some u_:=by
 obtain⟨a,b,c,rfl,Y,h2,h3,h4,h5,h6⟩:=h
 push_cast[Cy,Jj,pK ⟨a,b,rfl,Y,h2,h3,h4⟩,rF (i:=c) (k:=16) e8_ h5 a!]
def lX(h:Cr x):Fo [x]=some u_:=by
 have n:∀s,Ch [eU_]=some X!:=λs=>by push_cast[Ch,Jz]
 obtain rfl|rfl|h:=h
 .push_cast[Fo,Ka,n,iL]
 .push_cast[Fo,Ka,n,iL]
 .push_cast[Fo,Ka,pK h]
def wG(h:Mn x):Ee [x]=some u_:=by
 obtain rfl|h:=h
 .push_cast[Ee,Ij]
 .obtain⟨a,b,rfl,_⟩:=id h
  push_cast[Ee,Ij,pK h]
def b6g(h:Kt x):Ew [x]=some u_:=by
 obtain rfl|h:=h
 .push_cast[Ew,Jk]
 .obtain⟨a,b,c,rfl,_⟩:=id h
  push_cast[Ew,Jk,pZ h]
def c0q(h0:0<=i)(Y:i<=3):Gy [b2!]=some u_:=by push_cast[Gy,Nv,rF (i:=i) (k:=4) e8_ h0 a!]
def c5u(h:Rl s=true)(Y:1<=aO_)(h2:aO_<=16):Hz [eU_]=some u_:=by
 unfold Rl at h;rw[HQ,HS]at h;have hl:aO_<=big:=by unfold big;omega
 have hc:=tU cn! rfl s.cps.toList h.2;have gq:(List.map ki! s.cps.toList).all id=true:=by simp
 have z1:1<=jO!:=by omega
 have z2:jO!<=16:=by omega
 have hz:yv!<=big:=by simpa[Str.length]using hl
 have z9:Ff 1 [] (Za k!) G! ay_ ie! [some bS_]=some (.lst Bj_):=by
  show(if(s.cps.toList.map λc=>D.str an!).length<=big then Option.map D.lst (Df G! ay_ ie! cn! (s.cps.toList.map λc=>.str an!))else none)=_;rw[GY,HC hz,hc];rfl
 have hall2:Lr [.lst Bj_]=some u_:=by
  simp only[Lr,tX,LF,gq]
 push_cast[Hz,Pj,z9,hl,z1,z2,hall2]
def c5o(nd:t.nd):Jd t t.A0=some Fo/\Jd t t.A7=some Ee/\Jd t t.A8=some Ew/\Jd t t.A9=some Hz/\Jd t t.B0=some Cy/\
  Jd t t.B1=some Ca/\Jd t t.B2=some Gy/\Jd t t.B3=some Dx/\Jd t t.B4=some Ch:=by
 replace nd:=nd.1
 simp only[HR,GT,JM,NX,OV]at nd;unfold Jd;refine⟨?_,?_,?_,?_,?_,?_,?_,?_,?_⟩<;>grind
def qF(ρ:Ab)(pe:ρ=o9_):∀(cs:pa!),(∀c∈cs,∃g,Jd t c.1=some g/\g [c.2]=some u_)->
  Df ig! ay_ ig_ ρ ki_=some jI_/\(ki_).length=cV_
 |[],_=>aI_
 |c::cs,h=>by
  have ih:=qF ρ pe cs λx hx=>h x aP!;obtain⟨g,Y,h2⟩:=h c GR;subst pe;refine⟨?_,by simp only[HD,Iw,HJ,ih.2]⟩;simp only[HD,Iw,Df,ih.1];simp[Oq,Ax,Mm,aCons,fVar,aNil,Y,h2]
def wN:∀(cs:pa!),Ie zo_=some zp!
 |[]=>rfl
 |c::cs=>by simp only[HD,Ie,wN cs,LF]
def iM(cs:pa!)(h:∀c∈cs,∃g,Jd t c.1=some g/\g [c.2]=some u_)(hl:cV_<=1000):
  Fz t [.tup pb!,.tup pa_]=some u_:=by
 have hc:=qF o9_ rfl cs h;have hz:cV_<=big:=by unfold big;omega
 have z9:Ff 2 [] (Yz C! k!) ig! ay_ ig_ [some (.tup pb!),some (.tup pa_)]=some (.lst jI_):=by
  show(if(ki_).length<=big then Option.map D.lst (Df ig! ay_ ig_ o9_ ki_)else none)=_;rw[hc.2,HC hz,hc.1];rfl
 have gq:Lr [.lst jI_]=some u_:=by
  simp only[Lr,wN,LF];simp
 push_cast[Fz,Mq,z9,gq]
def a2u(x:D)(r:b!):Ay (.tup (x::r)) e1! none=some (.tup r):=by
 have Y:HT.sIx (av!+1) 0 e1!=1:=by
  simp[HT.sIx]
 have h2:HT.sIx (av!+1) (av!+1) none=av!+1:=by simp[HT.sIx]
 simp[Ay,Cf,Y,h2]
def iG(hk:(fQ!).lookup k=some (.tup fs))(hp:Fz t [.tup r,.tup fs]=some u_)(hc:k≠"cut"):Go t [.tup eX_]=some u_:=by
 have h0:¬(gH_+1=0):=by omega
 have he:eqD' (.int (gH_+1)) N_=some X!:=by simp[eqD',Aw,dep,eqD,h0]
 push_cast[Go,Me,he,Xh,hk,Tn,hp,a2u,hc]
def c5x(nd:t.nd)(h:DG d):Go t [d]=some u_:=by
 obtain⟨i1,i2,i3,i4,i5,i6,i7,i8,i9⟩:=c5o nd;have two:∀{a b:Addr×D} {P:pc!},P a->P b->∀c∈aJ!,P c:=λY h2 c hc=>by
  simp only[GT,JM,NX]at hc;obtain rfl|rfl:=hc
  .exact Y
  .exact h2
 have w4:∀{a b c:Addr×D} {P:pc!},P a->P b->P c->∀x∈[a,b,c],P x:=λY h2 h3 c hc=>by
  simp only[GT,JM,NX]at hc;obtain rfl|rfl|rfl:=hc
  .exact Y
  .exact h2
  .exact h3
 have one:∀{a:Addr×D} {P:pc!},P a->∀x∈[a],P x:=λY c hc=>by rw[GZ.mp hc];exact Y
 cases h with
 |@put a b Y h2=>exact iG rfl (iM [e9!,(t.A7,b)] (two e9_ ⟨_,i2,wG h2⟩) d_) k_
 |@move a b c Y h2 h3=>exact iG rfl (iM [e9!,(t.A0,b),(t.A7,c)] (w4 e9_ ⟨_,i1,lX h2⟩ ⟨_,i2,wG h3⟩) d_) k_
 |@drop a Y=>exact iG rfl (iM [e9!] (one e9_) d_) k_
 |@write a b s Y h2 h3 h4 h5=>exact iG rfl (iM [e9!,(t.A8,b),(t.A9,.str s)] (w4 e9_ ⟨_,i3,b6g h2⟩ ⟨_,i4,c5u h3 h4 h5⟩) d_) k_
 |@cut a x y z m Y h2 h3 h4=>
  have hz:0<=z:=by obtain⟨_,_,_,e,_,_,_,_,q,_⟩:=h2;cases e;exact q
  have hp:=iM (t:=t) [e9!,(t.B0,.tup jp_),(t.B1,.int m)] (w4 e9_ ⟨_,i5,pZ h2⟩ ⟨_,i6,zK e8_ h3⟩) d_;have he:eqD' (.int 4) N_=some X!:=by simp[eqD',Aw,dep,eqD]
  have hk:(fQ!).lookup ("cut":Str)=some (.tup tj!):=rfl;simp only[HD,LZ]at hp
  push_cast[Go,Me,he,Xh,hk,Tn,hp,a2u,h4]
 |@set a p n Y h2 h3 h4=>exact iG rfl (iM [e9!,(t.B2,.int p),(t.B3,.int n)] (w4 e9_ ⟨_,i7,c0q h2 h3⟩ ⟨_,i8,rE h4⟩) d_) k_
 |@undo a Y=>exact iG rfl Bp! k_
 |@redo a Y=>exact iG rfl Bp! k_
def c9r(nd:t.nd)(Y:0<=h)(h2:h<16)(h3:1<=n)(h4:n<=2000)(h5:1<=m)(h6:m<=1000)(hd:DG d):Bh t [.tup [af_,aD_,cV!,d]]=some u_:=by push_cast[Bh,Gq,pK ⟨h,n,rfl,Y,h2,h3,h4⟩,zK (i:=m) e8_ h5,c5x nd hd]
def lA(h:j7_):Aw x=true/\dep x<=1:=by obtain⟨a,b,rfl,_⟩:=h;simp[Aw,Bt,dep,Dt]
def eI(h:Cr x):Aw x=true/\dep x<=1:=by
 obtain rfl|rfl|h:=h
 .simp[Aw,dep]
 .simp[Aw,dep]
 .exact lA h
def wX(h:Mn x):Aw x=true/\dep x<=1:=by
 obtain rfl|h:=h
 .simp[Aw,dep]
 .exact lA h
def a6c(h:Kt x):Aw x=true/\dep x<=1:=by obtain rfl|⟨a,b,c,rfl,_⟩:=h<;>simp[Aw,Bt,dep,Dt]
def c8v(h:DG d):Aw d=true/\dep d<=2:=by
 cases h with
 |put Y h2=>simp only[Aw,Bt,dep,Dt,eI Y,wX h2,MQ,QL];have:=(fa!).2;have:=(wX h2).2;omega
 |move Y h2 h3=>simp only[Aw,Bt,dep,Dt,eI Y,eI h2,wX h3,MQ,QL];have:=(fa!).2;have:=(eI h2).2;have:=(wX h3).2;omega
 |drop Y=>simp only[Aw,Bt,dep,Dt,eI Y,MQ,QL];have:=(fa!).2;omega
 |write Y h2=>simp only[Aw,Bt,dep,Dt,eI Y,a6c h2,MQ,QL];have:=(fa!).2;have:=(a6c h2).2;omega
 |cut Y=>simp only[Aw,Bt,dep,Dt,eI Y,MQ,QL];have:=(fa!).2;omega
 |set Y=>simp only[Aw,Bt,dep,Dt,eI Y,MQ,QL];have:=(fa!).2;omega
 |undo Y=>simp only[Aw,Bt,dep,Dt,lA Y,MQ,QL];have:=(lA Y).2;omega
 |redo Y=>simp only[Aw,Bt,dep,Dt,lA Y,MQ,QL];have:=(lA Y).2;omega
nonrec def hs(os:c!)(h:Int):List Op:=os.filter λo=>decide (o.h=h)
structure Zh(l:c!):Prop where
 num:∀(i:Nat) (o:Op),l[i]?=some o->o.n=h3!+1
 tim:l.Pairwise λa b=>a.tm<b.tm
structure OpF(o:Op):Prop where
 hh:0<=o.h/\o.h<16
 t1:1<=o.tm
 t2:o.tm<=1000
 n1:1<=o.n
 n2:o.n<=2000
 dg:DG o.d
structure Cv(os:c!):Prop where
 ch:∀h,Zh gZ!
 op:∀o∈os,OpF o
def Zh.nil:Zh []:=⟨λi o e=>by simp at e,iH!⟩
def Zh.snoc{o:Op}(h:Zh l)(e:o.n=(bL!:Nat)+1)(ht:∀x∈l,x.tm<o.tm):Zh (l++[o]):=by
 refine⟨λi x hx=>?_,?_⟩
 .obtain c|c:=KN i bL!
  .rw[LB c]at hx;exact h.num i x hx
  .rw[JU c]at hx;obtain z|z:=Nat.eq_zero_or_pos (i - bL!)
   .rw[z]at hx;simp at hx;subst hx;rw[e];omega
   .rw[KD cA!]at hx;cases hx
 .rw[List.pairwise_append];exact⟨h.tim,List.pairwise_singleton _ _,λa ha b hb=>by rw[hc_];exact ht a ha⟩
def dB{a b:c!}{h:Int}:hs (a++b) h=hs a h++hs b h:=by unfold hs;rw[OZ]
def jJ{o:Op}{h:Int}:hs [o] h=if o.h=h then[o]else[]:=by
 unfold hs;by_cases c:o.h=h
 .rw[HC c,LK Bs!];rfl
 .rw[HA c,JT Bs!];rfl
def eG{os:c!}:o∈hs os h↔o∈os/\o.h=h:=by unfold hs;rw[JG];simp
def Cv.nil:Cv []:=⟨λh=>Zh.nil,Bt!⟩
def Cv.snoc{os:c!}{o:Op}(h:Cv os)(hf:bz_)(e:o.n=((pe!).length:Nat)+1)(ht:∀x∈os,x.h=o.h->x.tm<o.tm):Cv (os++[o]):=by
 refine⟨λk=>?_,G_⟩
 .rw[dB,jJ];by_cases c:o.h=k
  .rw[HC c];subst c;exact(pf!).snoc e λx hx=>ht x (eG.mp hx).1 (eG.mp hx).2
  .rw[HA c,IB];exact h.ch k
 .obtain z|z:=GS.mp hx
  .exact h.op x z
  .rw[a7!];exact hf
structure HW(i:Nat)(os:c!)(c t:cB_):Prop where
 hist:Cv os
 len:V_=i
 q:∀h,c h=((gZ!).length:Nat)
 u:∀x∈os,x.tm<=t x.h
 b:∀h,0<=t h/\t h<=3*i
 s:∀x∈os,x.h=0\/x.h=5\/x.h=15
def OpF.ok{o:Op}(h:bz_):Sx o.v:=⟨o.h,o.n,o.tm,o.d,rfl,h.hh.1,h.hh.2,h.n1,h.n2,h.dg⟩
def zE(os:c!)(h:Int):(gZ!).length<=V_:=NA _ _
def HW.step{i:Nat}{os:c!}{c t:cB_}{a m:Int}(hw:HW i os c t)(ha:a=0\/a=5\/a=15)(h0:0<=m)(hi:i<100)(hd:DG dd):HW S! (os++[⟨a,c a+1,t a+1+m / 3%3,dd⟩]) (λh=>if h=a then c a+1 else c h) (λh=>if h=a then t a+1+m / 3%3 else t h):=by
 have m1:0<=m / 3%3:=JQ _ b_;have m2:m / 3%3<3:=JD _ b_;have hc:=hw.q a;have hb:=hw.b a;have hl:=zE os a;rw[hw.len]at hl;refine⟨hw.hist.snoc ⟨by obtain z|z|z:=ha<;>(show 0<=a/\a<16;omega),by show 1<=t a+1+m / 3%3;omega,by show t a+1+m / 3%3<=1000;omega,by show 1<=c a+1;omega,by show c a+1<=2000;omega,hd⟩ (by show c a+1=((hs os a).length:Nat)+1;omega) (λx hx (hh:x.h=a)=>by have:=hw.u x hx;rw[hh]at this;show x.tm<t a+1+m / 3%3;omega),by rw[HN,hw.len];rfl,λh=>?_,λx hx=>?_,λh=>?_,λx hx=>(cQ!).elim (hw.s x) λz=>by rw[a7!];exact ha⟩
 .show(if h=a then c a+1 else c h)=_;rw[dB,jJ,HN];by_cases e:h=a
  .rw[HC e,e,A!,hc];simp
  .rw[HA e,HA (IA e),hw.q h];simp
 .show _<=if x.h=a then t a+1+m / 3%3 else t x.h
  obtain z|z:=GS.mp hx
  .have:=hw.u x z;split
   .rename_i e;rw[e]at this;omega
   .show"#-"
  .rw[a7!,A!];exact KW _
 .show 0<=Bu_/\Bu_<=_;have:=hw.b h;split<;>omega
section
def b2f(hv:fv ρ=some d)(hx:Bv!)(hl:pf_)(hk:Eh ds.length j=some k):Sl i fx fv ρ=some (.nx xP_):=by unfold Sl;rw[hv,hx,hl];show(n2!).map _=_;rw[hk];rfl
def yY(hx:Bv!)(hl:pf_)(h:atI ds j=some d):On i fx ρ=some d:=by unfold On;rw[hx,hl];exact h
def b7e(hf:ci_)(hl:pf_)(hb:e_<big):Nc i f ρ=some xM_:=by unfold Nc;rw[hf,hl];show(if e_<big then _ else _)=_;rw[HC hb]
def c0d(h:ci_)(n:Dd d=true):Rq f ρ=some d:=by unfold Rq;rw[h];show(if Dd d=true then _ else _)=_;rw[HC n]
end
def b4b:Cm (.int 7) cm!=some (.int (7*j)):=rfl
def b1a{base j m kk a c t:Int}{os cs ts:b!}(em:g_Lmix [bT_,.int (base+7*j)]=some dD!)(ed:Im [bT_,.int (base+7*j+1),.lst os,.int 5]=some dd)(nd:Dd dd=true)(z:m%3=kk)
  (hc:atI cs kk=some ou_)(ht:atI ts kk=some (.int t))(kc:Eh cs.length kk=some k)(kt:Eh ts.length kk=some k)(cb:atI Bx_ kk=some Bx!)(ht':atI Bz! kk=some By_)
  (ha:atI [D.int 0,.int 5,.int 15] kk=some ot!)(hb:V_<big):
  Td [E_,ak_,some N,some (.lst os),some (.lst cs),some (.lst ts),dM!,x7,x8,x9]=some (.nx [E_,ak_,some N,some (.lst (os++[.tup [.int a,.int (c+1),.int By!,dd]])),some (.lst Bx_),some (.lst Bz!),dM!,eS!,some (.int kk),some dd]):=by
 refine(aZ (fG (fS (bI rfl (bI BC_ rfl)) em))).trans ?_;refine(aZ (fG (cH rfl rfl ((c4_).trans (by rw[z]))))).trans ?_;refine(aZ (b2f (cH (yY rfl rfl hc) rfl rfl) rfl rfl kc)).trans ?_;refine(aZ (b2f (cH (cH (yY rfl rfl ht) rfl rfl) (cH (cH rfl rfl rfl) rfl c4_) rfl) rfl rfl kt)).trans ?_;refine(aZ (fG (c0d (fS (bI rfl (bI (cH BC_ rfl rfl) fa_)) ed) nd))).trans ?_;exact b7e (b1l (bI (cH rfl rfl ha) (bI (yY rfl rfl cb) (bI (yY rfl rfl ht') jT_))) rfl) rfl hb
def a8l(ns:v_)(base:Int)(N:Nat)(hN:N<=100):∃os:List Op,Jt [bT_,.int base,.int N]=some kl!/\V_=N/\Cv os/\(∀x∈os,x.tm<=3*N)/\∀x∈os,x.h=0\/x.h=5\/x.h=15:=by
 let P:Nat->Ab->Prop:=λi ρ=>∃(os:c!) (c t:cB_) (x6 x7 x8 x9:R!),ρ=BG!/\V_=i/\HW i os c t
 obtain⟨ρ',e,os,c,t,x6,x7,x8,x9,rfl,hl,hw⟩:=kK (bnd:=Bd 6) (q:=Td) P eZ! 0
  kl_
  ⟨[],oY!,oY!,none,none,none,none,rfl,rfl,.nil,rfl,bF!,g0_,λ_=>by simp,g0_⟩ (by
   rintro j d ρ hd ⟨os,c,t,x6,x7,x8,x9,rfl,hl,hw⟩;unfold rangeD at hd;rw[IK]at hd;obtain⟨i',c6,rfl⟩:=GX.mp hd;obtain⟨ai,he⟩:=HG.mp c6;rw[OX]at he;subst he;rw[LN]at ai;have ho:∀o∈os.map Op.v,Sx o:=λo ho=>by obtain⟨x,hx,rfl⟩:=HI.mp ho;exact(hw.hist.op x hx).ok
   have v0:(F!).length<=100:=by rw[GY];omega
   obtain⟨m,em,m0,_⟩:=eX ns (k:=base+7*(j:Nat));obtain⟨dd,ed,hd⟩:=c0u ns (base:=base+7*(j:Nat)+1) (most:=5) ho v0 b_ b_;have nd:=a5k hd;have hb:(F!).length<big:=by unfold big;omega
   have hat:m%3=0\/m%3=1\/m%3=2:=by omega
   obtain z|z|z:=hat
   .exact⟨_,_,rfl,pi!,_,_,_,_,_,_,_,pi_,cW_,hw.step al_ a! a! hd⟩
   .exact⟨_,_,rfl,pi!,_,_,_,_,_,_,_,pi_,cW_,hw.step g1! a! a! hd⟩
   .exact⟨_,_,rfl,pi!,_,_,_,_,_,_,_,pi_,cW_,hw.step (.inr iz_) a! a! hd⟩)
 refine⟨os,?_,by simpa[rangeD]using hl,hw.hist,(λx hx=>by have:=hw.u x hx;have:=hw.b x.h;simp[rangeD]at this;omega),hw.s⟩;have hr:-1000<=(N:Int)/\(N:Int)<=100000:=by omega
 have hf:Li nh! (Bd 6) Td kl_=some (.nx BG!):=by
  have hi:iRng K! kl_=some eZ!:=by
   simp[iRng,fVar,hr]
  unfold Li;rw[hi];exact e
 have hq:Ob BG_=some (.rt kl!):=by
  show sSeq iP! (sSeq (Nb 4 iP_) (sSeq (Nb 5 iP_) (sSeq (Li nh! (Bd 6) Td) iR_))) _=_;rw[aZ (ρ':=[E_,ak_,gZ_,g0!,none,none,none,none,none,none]) rfl];rw[aZ (ρ':=[E_,ak_,gZ_,g0!,ph_,none,none,none,none,none]) rfl];rw[aZ (ρ':=kl_) rfl];rw[aZ hf];rfl
 unfold Jt Bk;rw[ga!];show(match Ob BG_ with|some (.rt d)=>some d|some (.nx _)=>some .non|none=>none)=_;rw[hq]
def c7u{o:Op}(nd:t.nd)(h:bz_):Bh t bW!=some u_:=by have a1:=h.hh;exact c9r nd a1.1 a1.2 h.n1 h.n2 h.t1 h.t2 h.dg
def b3w(hf:∀a b,f a=f b->a.h=b.h):∀(os:c!),(∀h,((gZ!).map f).Nodup)->(os.map f).Nodup
 |[],_=>KZ
 |o::os,H=>by
  have sub:∀h,(gZ!).Sublist (hs gX! h):=λh=>by unfold hs;exact(List.sublist_cons_self o os).filter _
  rw[HD,HR];refine⟨dH_,b3w hf os λh=>((sub h).map f).nodup (H h)⟩;obtain⟨x,hx,e⟩:=HI.mp z;have hh:=hf _ _ e;have H1:=H o.h;have:hs gX! o.h=o::hs os o.h:=by unfold hs;rw[LK d_]
  rw[this,HD,HR]at H1;exact H1.1 (HI.mpr ⟨x,eG.mpr ⟨hx,hh⟩,e⟩)
def Cv.names{os:c!}(h:Cv os):(A8!).Nodup:=by
 refine b3w BI_ os λk=>?_
 .show"#E";exact e.1
 .have hn:=(pj_).num;rw[NK,PR,MF];intro i j hi hj v4 e;have e1:=hn i _ (HU hi);have e2:=hn j _ (HU hj);show"#E";omega
def Cv.keys{os:c!}(h:Cv os):(os.map Op.key).Nodup:=by
 refine b3w BI_ os λk=>?_
 .simp only[Op.key,Prod.mk.injEq]at e;exact e.2
 .rw[NK,PR];refine(pj_).tim.imp λ{a b} l9 e=>?_;simp only[Op.key,Prod.mk.injEq]at e;omega
end K12
namespace K12
open PySem L2 DL
open Classical
def nQ{ep:Nat}{M:Mh}(h:bT!)(hk:a3!):Do M z_ y=kget σ y:=by simp[Do,h,hk]
section
variable{M:Mh}{ρ:Ab}
def wM{g:WF}{f1 f2:i_}{a:D}{K:t_}(Y:gD_)(h2:jy_)(k:g aJ! M K):Ap 2 g oi_ ρ M K:=by unfold Ap Aa Ac;rw[bM Y,c5!];exact fb!
def c2r{g:WF}{f1:i_}{a:D}{K:t_}(Y:gD_)(k:g [a] M K):Ap 1 g (Aa gE! Ac) ρ M K:=by unfold Ap Aa Ac;rw[bM Y];exact fb!
end
def gY(o:Op):ixD o.v N_=some cr!:=by simp[Op.v,ixD,atI,Eh]
def iR(o:Op):ixD o.v aJ_=some km_:=by simp[Op.v,ixD,atI,Eh]
def a6y(h:cl_)(hd:dep d<=40):Ed d d=some X!:=by unfold Ed;rw[h,kP d h,HF hd];rfl
def a4a(o:Op):ixD o.v cD_=some g2!:=by simp[Op.v,ixD,atI,Eh]
def oZ:∀{ds:b!},(∀d∈ds,Aw d=true)->Bt ds=true
 |[],_=>by simp[Bt]
 |d::ds,h=>by
  unfold Bt;rw[h d GR,oZ λx hx=>h x aP!];rfl
def tS:∀{ds:b!},(∀d∈ds,dep d<=n)->Dt ds<=n
 |[],_=>by simp[Dt]
 |d::ds,h=>by
  unfold Dt;have Y:=h d GR;have h2:=tS λx hx=>h x (GO d hx);omega
def gC{o:Op}(h:DG o.d):Aw o.v=true/\dep o.v<=5:=by
 obtain⟨Y,h2⟩:=c8v h;show"!|"
 .show Bt j4_=true;refine oZ λd hd=>?_;simp only[GT,JM,NX]at hd;obtain rfl|rfl|rfl|rfl:=hd
  .rfl
  .rfl
  .rfl
  .exact Y
 .show Dt j4_+1<=5;have:Dt j4_<=2:=tS λd hd=>by
   simp only[GT,JM,NX]at hd;obtain rfl|rfl|rfl|rfl:=hd
   .simp[dep]
   .simp[dep]
   .simp[dep]
   .exact h2
  omega
nonrec def hF(yy:Int)(ta wa:yz!)(out:D):List bS!:=[("ours",.int yy),("taken",.fn ta),("waiting",.fn wa),("outline",out)]
section
def hF1:List.lookup BJ_ c5_=some (D.int yy):=by kernel_rfl
def hF2:List.lookup BK! c5_=some (D.fn ta):=by kernel_rfl
def hF3:List.lookup BL! c5_=some (D.fn wa):=by kernel_rfl
def hF4:List.lookup pk_ c5_=some out:=by kernel_rfl
def hM1:List.lookup (Str.ofString "have") c5_=none:=by kernel_rfl
def hP1:Gu BJ_ fc! []=[fb_]:=by kernel_rfl
def hP2:Gu BK! kn_ [fb_]=kn!:=by kernel_rfl
def hP3:Gu BL! fc_ kn!=ko!:=by kernel_rfl
def hP4:Gu pk_ .non ko!=hF yy ta wa .non:=by kernel_rfl
def hP5:Gu pk_ o2 c5_=hF yy ta wa o2:=by kernel_rfl
end
structure Ba(t:Bl)(M:Mh)(yy:Int)(a ta wa:yz!)(Wt:c!)(out:D)(S:c!)(kl:v_)(ca:g2_):Prop where
 ob:M a=some (.obj t.B5 c5_)
 tk:∃ep,M ta=some (.dct g3! ep)
 wt:M wa=some (.lst (Wt.map Op.v))
 cl:∀h∈kl,M (ca h)=some (.lst ((dN_).map Op.v))
 nk:kl.Nodup
 mem:∀h,h∈kl↔hs S h≠[]
 cw:∀h∈kl,ca h≠wa
 ci:∀h∈kl,∀h'∈kl,ca h=ca h'->h=h'
 len:ko_<=aE_
def Ow(a ta wa:yz!)(kl:v_)(ca:g2_)(b:yz!):Prop:=b=a\/b=ta\/b=wa\/∃h∈kl,b=ca h
structure Mv(M:Mh)(O:bg_)(M':Mh)(O':bg_):Prop where
 k:∀b,M b≠none->¬O b->M' b=M b
 n:∀b,O' b->O b\/M b=none
def Mv.refl{M:Mh}{O:bg_}:Mv M O M O:=⟨w9!,br_⟩
def Mv.of{M M':Mh}{O:bg_}(h:BO_):Mv M O M' O:=⟨λb hb _=>h b hb,br_⟩
def Mv.trans{M M1 M2:Mh}{O O1 O2:bg_}(h:Mv M O M1 O1)(g:Mv M1 O1 M2 O2):Mv M O M2 O2:=by
 refine⟨pl_,λb ho=>?_⟩
 .have e:=h.k b hb ho;exact(g.k b (by rw[e];exact hb) λz=>(h.n b z).elim ho hb).trans e
 .obtain z|z:=g.n b ho
  .exact h.n b z
  .by_cases c:M b=none
   .exact .inr c
   .by_cases d:O b
    .exact .inl d
    .rw[h.k b c d]at z;exact .inr z
def fL{g:Int->D}:∀{kl:v_} {x:Int},kget (kl.map λh=>(D.int h,g h)) (.int x)=if x∈kl then some (g x)else none
 |[],x=>by simp[kget]
 |k::kl,x=>by
  rw[HD];unfold kget;by_cases e:k=x
  .subst e;simp
  .rw[HA λz=>e pm!,fL];simp[IA e]
section
variable{t:Bl}{M:Mh}{yy:Int}{a ta wa:yz!}{Wt:List Op}{out:D}{S:List Op}{kl:List Int}{ca:Int->Addr}
def Ba.nob(hA:ab_)(hm:(c5_).lookup m=none):Dh t.B5 m M cg!:=by show(match M a with|some (.obj C' fs)=>C'=t.B5/\fs.lookup m=none|_=>False);rw[hA.ob];exact⟨rfl,hm⟩
def Ba.nol(hA:ab_){h:Int}(hh:h∉kl):hs S h=[]:=IJ λz=>hh ((pm_).mpr z)
def Ba.keep{M':Mh}(hA:ab_)(k:BO_):Ba t M' yy a ta wa Wt out S kl ca:=by obtain⟨ep,ht⟩:=hA.tk;exact{hA with ob:=(k a kp!).trans hA.ob,tk:=⟨ep,(k ta kp_).trans ht⟩,wt:=(k wa kq!).trans hA.wt,cl:=λh hh=>(k _ kq_).trans g3_}
def Ba.lv(hA:ab_)(h:Ow a ta wa kl ca b):M b≠none:=by
 obtain⟨ep,ht⟩:=hA.tk;obtain rfl|rfl|rfl|⟨h,hh,rfl⟩:=h
 .rw[hA.ob];simp
 .rw[ht];simp
 .rw[hA.wt];simp
 .rw[hA.cl h hh];simp
def Ba.mv{M':Mh}{O O':bg_}(hA:ab_)(m:Mv M O M' O')(d:∀b,Ow a ta wa kl ca b->¬O b):Ba t M' yy a ta wa Wt out S kl ca/\∀b,Ow a ta wa kl ca b->¬O' b:=by have k:∀b,Ow a ta wa kl ca b->M' b=M b:=λb hb=>m.k b (hA.lv hb) (d b hb);obtain⟨ep,ht⟩:=hA.tk;exact⟨{hA with ob:=(k a al_).trans hA.ob,tk:=⟨ep,(k ta g1!).trans ht⟩,wt:=(k wa (.inr g1!)).trans hA.wt,cl:=λh hh=>(k _ (.inr (.inr (.inr ⟨h,hh,rfl⟩)))).trans g3_},λb hb z=>(m.n b z).elim (d b hb) (hA.lv hb)⟩
def nT{h:Int}(hA:ab_):Wj eq! [B_,af_] M pn!:=λK hK=>by
 show"#+";refine p!;by_cases c:h∈kl
 .have hl:Gi M [.fn (ca h)]=some pn!:=by
   show((Jh M kr!).map λxs=>D.int g!)=_;simp only[Jh,hA.cl h c,LF,GY]
  exact dG (lJ (jX g4! g4_ BV! ht (k:=po!) rfl (by rw[fL,HC c];rfl)) hl) hK
 .have hl:Gi M [.lst []]=some pn!:=by rw[hA.nol c];rfl
  exact dG (lJ (jX g4! g4_ BV! ht (k:=po!) rfl (by rw[fL,HA c];rfl)) hl) hK
def mG{o:Op}(hA:ab_):Wj (Ev t) pp! M (.bl (decide (o.n<=ks!))):=λK hK=>by
 refine p!;exact dG (eK ks_ BW! rfl) hK
def tJ{o:Op}(hA:ab_):Wj (Fn t) pp! M (.bl (o.n==ks!+1)):=λK hK=>by
 refine p!;exact dG (eK ks_ (eK BW! kt! (d:=.int (ks!+1)) rfl) fd!) hK
nonrec def lt(S:c!)(h:Int):Int:=((dN_).getLast?.map Op.tm).getD 0
def b9t(h:xs.getLast?=some v):atI xs (-1)=some v:=by
 have hl:0<g!:=by cases xs with|nil=>cases h|cons a l=>simp
 unfold atI Eh;rw[HA a!,by_];show xs[((-1:Int)+g!).toNat]?=_;rw[show((-1:Int)+xs.length).toNat=xs.length - 1 by omega,<-List.getLast?_eq_getElem?];exact h
def nK{h:Int}(hA:ab_):Wj (Dw t) [B_,af_] M BW_:=λK hK=>by
 show"#+";refine p!;show Ad uo! uq! [q_,kt_] M _;have hv:=jB (eK (g:=λ_=>eqD') (ρ:=[q_,kt_]) (iU g5_ pp_ (aV (f:=dP!) (d:=af_) rfl) (nT hA)) (aV (f:=fC N_) rfl) fd!);by_cases c:hs S h=[]
 .rw[c]at hv;unfold Ad;refine eM hv (dG cs! ?_);unfold lt at hK;rw[c]at hK;exact hK
 .have hl:0<(dN_).length:=List.length_pos_iff.mpr c;rw[show(pq!==0)=false from by rw[IQ];omega]at hv;refine fE hv ?_;have hk:=(pm_).mpr c;obtain⟨o,ho⟩:∃o,(hs S h).getLast?=some o:=by cases e:(dN_).getLast? with|some o=>exact⟨o,rfl⟩|none=>exact absurd (PF.mp e) c
  have i1:Do M kn_ dO_=some kr!:=(BX_).trans BY!;have i2:Do M kr! ku!=some o.v:=by
   simp only[Do,hA.cl h hk];exact b9t (by rw[List.getLast?_map,ho];rfl)
  have e:lt S h=o.tm:=by unfold lt;rw[ho];rfl
  rw[e]at hK;exact dG (eK (eK (eK g4! g4_ i1) BY_ i2) BZ! (a4a o)) hK
def a9y{ρ:Ab}{fy:i_}{R:t_}(hy:fy ρ=some fc!)(hR:∀a ta wa M',M a=none->Ba t M' yy a ta wa [] .non [] [] (λ_=>a)->a6!->(∀b,Ow a ta wa [] (λ_=>a) b->M b=none)->R cg! M'):Fx t.B5 2 (Kf t) (Aa (wl fy) Ac) ρ M R:=by
 unfold Fx Aa Ac;rw[bM hy];refine⟨rfl,λa ha=>p!⟩;refine jV ?_;rw[bM (f:=dP!) (d:=fe_) rfl];refine gB (fs:=[]) rfl mup_same b_ hP1 ?_;generalize e1:mup (mup M a (.obj t.B5 [])) a B0!=M1;have a1:M1 a=some B0!:=by rw[<-e1];exact mup_same
 have o1:∀b,b≠a->M1 b=M b:=λb hb=>by rw[<-e1,a5!,a5!]
 refine jV ?_;intro ta F';have u9:a≠ta:=cZ (by rw[a1];simp) F';refine gB (fs:=[fb_]) rfl ((mup_ne u9).trans a1) A5_ hP2 ?_;generalize e2:mup (mup M1 ta c3_) a B0_=M2;have a2:M2 a=some B0_:=by rw[<-e2];exact mup_same
 have VT:M2 ta=some c3_:=by rw[<-e2,mup_ne kv!];exact mup_same
 have o2:∀b,b≠a->b≠ta->M2 b=M b:=λb hb hc=>by rw[<-e2,a5!,mup_ne hc];exact o1 b hb
 refine jV ?_;refine⟨Q_,λwa w5=>?_⟩;have w6:a≠wa:=cZ (by rw[a2];simp) w5;have VU:ta≠wa:=cZ (by rw[VT];simp) w5;refine gB (fs:=kn!) rfl ((mup_ne w6).trans a2) B1! hP3 ?_;generalize e3:mup (mup M2 wa bW_) a B1_=M3;have a3:M3 a=some B1_:=by rw[<-e3];exact mup_same
 have o3:∀b,b≠a->b≠wa->M3 b=M2 b:=λb hb hc=>by rw[<-e3,a5!,mup_ne hc]
 have w3:M3 wa=some bW_:=by rw[<-e3,B2!];exact mup_same
 refine mK ?_;rw[pr_];refine gB (fs:=ko!) rfl a3 B1! hP4 ?_;refine⟨rfl,hR a ta wa _ ha ⟨mup_same,⟨0,?_⟩,?_,ps!,KZ,λh=>by simp[hs],ps!,ps!,HK _⟩ fx_ λb hb=>?_⟩
 .rw[mup_ne kv!,o3 ta kv! VU];exact VT
 .rw[B2!];exact w3
 .have ba:b≠a:=cZ hb ha;have bt:b≠ta:=cZ (N:=M1) (by rw[o1 b ba];exact hb) F';have bw:b≠wa:=cZ (N:=M2) (by rw[o2 b ba bt];exact hb) w5;rw[mup_ne ba,o3 b ba bw,o2 b ba bt]
 .obtain rfl|rfl|rfl|⟨_,h,_⟩:=hb
  .exact ha
  .rw[<-o1 _ kv!];exact F'
  .rw[<-o2 _ (IA w6) (IA VU)];exact w5
  .cases h
end
nonrec def nh(S:c!)(h:Int):Int:=pq!
structure Uw(U:c!):Prop where
 op:∀o∈U,OpF o
 uniq:∀x∈U,∀y∈U,x.h=y.h->x.n=y.n->x=y
 rise:∀x∈U,∀y∈U,x.h=y.h->x.n<y.n->x.tm<y.tm
 sm:∀o∈U,B3_/\o.n<=14
structure Gd(U S Wt:c!):Prop where
 hS:Cv S
 wn:∀o∈Wt,nh S o.h<o.n
 sub:∀o,o∈S\/o∈Wt->o∈U
 nd:Wt.Nodup
 w8:ps_<=8
def Nnx(S Wt:c!):Prop:=∀x∈Wt,x.n≠nh S x.h+1
structure Ex(S W S' W':c!):Prop where
 pre:∀h,hs S h<+:hs S' h
 mem:∀x∈S',x∈S\/x∈W
 w:W'=W.filter λx=>decide (nh S' x.h<x.n)
 len:S'.length+W'.length=aE_+aF!
section
variable{U S W S1 W1 S2 W2:List Op}{o x y:Op}
def Cv.ix(h:Cv U)(ho:c6_):∃i:Nat,(hs U o.h)[i]?=some o/\o.n=h3!+1:=by
 obtain⟨i,hi,e⟩:=OO.mp (eG.mpr pt!);have z:(hs U o.h)[i]?=some o:=by rw[HU hi,e]
 exact⟨i,z,(pf!).num i o z⟩
def Cv.le(h:Cv S)(ho:o∈S):o.n<=nh S o.h:=by obtain⟨i,Y,h2⟩:=h.ix ho;have:=(gt_).1;unfold nh;omega
def b9q:∀{S:c!},(∀o∈S,o.h=0\/o.h=3\/o.h=5\/o.h=15)->aE_<=(hs S 0).length+(hs S 3).length+(hs S 5).length+(hs S 15).length
 |[],_=>IF _
 |o::S,h=>by
  have ih:=b9q λx hx=>h x aP!;have e:∀k,hs (o::S) k=hs [o] k++hs S k:=λk=>dB (a:=[o]);simp only[e,jJ,HN,HJ];obtain z|z|z|z:=h o GR<;>simp[z]<;>omega
def Cv.n14(hU:Uw U)(h:Cv S)(sub:∀o∈S,o∈U)(k:Int):(kv_).length<=14:=by refine IJ λz=>?_;have z:14<(kv_).length:=QB z;have hx:kv_[14]?=some kv_[14]:=HU z;have n:=(pj_).num _ _ hx;have m:=(pt_).1;have:=(hU.sm _ (sub _ m)).2;omega
def Gd.ln(hU:Uw U)(g:ff_):aE_<=56/\aE_+aF!<65:=by have h:=b9q λo ho=>(hU.sm o (g.sub o (.inl ho))).1;have a:=g.hS.n14 hU (λo ho=>g.sub o (.inl ho));have a0:=a 0;have a1:=a 3;have a2:=a 5;have a3:=a 15;have:=g.w8;omega
def Ex.nhle(e:kw!)(h:Int):nh S h<=nh S1 h:=by have:=(e.pre h).length_le;unfold nh;omega
def Ex.refl(hw:∀o∈W,nh S o.h<o.n):Ex S W S W:=⟨λ_=>List.prefix_refl _,br_,(JL.mpr λx hx=>by simpa using hw x hx).symm,rfl⟩
def Ex.trans(e:kw!)(f:Ex S1 W1 S2 W2):Ex S W S2 W2:=by
 refine⟨λh=>(e.pre h).trans (f.pre h),G_,?_,by have:=e.len;have:=f.len;omega⟩
 .obtain z|z:=f.mem x hx
  .exact e.mem x z
  .rw[e.w]at z;exact .inr (JG.mp z).1
 .rw[f.w,e.w,OY];refine KS λx hx=>?_;have:=f.nhle x.h;rw[JH];simp only[HQ,HS];show"!|"
  .exact λz=>z.1
  .exact λz=>⟨z,m_⟩
def Ex.le{Sb:c!}(hU:Uw U)(hq:pu!)(g1:Gd U S1 W1)(g2:Gd U S2 W2)(e1:kw!)(e2:B5!)(n1:Nnx S1 W1)(h:Int)(hS:Cv Sb):(fg!).length<=(fg_).length:=by
 refine IJ λz=>?_;have z:(fg_).length<(fg!).length:=QB z;have hx:fg![(fg_).length]?=some fg![(fg_).length]:=HU z;have m:=eG.mp (IZ z);have num:=(B5_).num _ _ hx;generalize fg![(fg_).length]=x at hx m num;obtain q|q:=e2.mem x m.1
 .have Y:=hS.le q;have h2:=e1.nhle x.h;rw[m.2]at Y h2;unfold nh at Y h2;rw[hq]at h2;omega
 .refine n1 x (by rw[e1.w,JG];exact⟨q,HF B6!⟩) B6!
def Ex.uniq{Sb:c!}(hU:Uw U)(hq:pu!)(hS:Cv S)(hB:Cv Sb)(g1:Gd U S1 W1)(g2:Gd U S2 W2)(e1:kw!)(e2:B5!)(n1:Nnx S1 W1)(n2:Nnx S2 W2):pu_/\W1=W2/\pv!+pw!=pv_+aE_:=by
 have hl:∀h,(fg_).length=(fg!).length:=λh=>RX (Ex.le hU (λk=>(hq k).symm) g2 g1 e2 e1 n2 h hS) (Ex.le hU hq g1 g2 e1 e2 n1 h hB);have hw:W1=W2:=by
  rw[e1.w,e2.w];refine KS λx hx=>?_;unfold nh;rw[hl]
 refine⟨dJ_,hw,by have a:=e1.len;have b:=e2.len;rw[hw]at a;omega⟩;refine List.ext_getElem (hl h) λi Y h2=>?_;have m1:=eG.mp (IZ Y);have m2:=eG.mp (IZ h2);have q1:=(g1.hS.ch h).num i _ (HU Y);have q2:=(B5_).num i _ (HU h2);exact hU.uniq _ (g1.sub _ (.inl m1.1)) _ (g2.sub _ (.inl m2.1)) (by rw[m1.2,m2.2]) a!
def xR:nh ct! x.h=if o.h=x.h then nh S x.h+1 else nh S x.h:=by
 unfold nh;rw[dB,jJ];by_cases c:o.h=x.h
 .rw[HC c,HC c,HN];show(((hs S x.h).length+1:Nat):Int)=_;omega
 .rw[HA c,HA c,IB]
def Gd.hist(hU:Uw U)(g:ff_)(ho:c6_)(hn:px!):Cv ct!:=
 g.hS.snoc B8! hn λx hx e=>hU.rise x (g.sub x px_) o ho e (by have:=g.hS.le hx;rw[e]at this;omega)
def Gd.take(hU:Uw U)(g:ff_)(ho:c6_)(hn:px!)(hw:o∉W):Gd U ct! W:=by
 refine⟨B8_,G_,G_,g.nd,g.w8⟩
 .have:=g.wn x hx;rw[xR];split
  .rename_i c;have:x.n≠o.n:=λz=>hw (hU.uniq x g7! o ho c.symm z▸hx);rw[c]at hn;omega
  .show"#-"
 .obtain hx|hx:=hx
  .obtain z|z:=GS.mp hx
   .exact g.sub x du!
   .rw[a7!];exact ho
  .exact g.sub x py!
def Gd.takeW{j:Nat}(hU:Uw U)(g:ff_)(hj:W[j]?=some o)(hn:px!):Gd U ct! c7!/\Ex S W ct! c7!:=by
 obtain⟨hl,e⟩:=HG.mp hj;have hw:o∈W:=e▸IZ hl;have ho:=g.sub o (.inr hw);have ee:W.eraseIdx j=W.filter λx=>decide (nh ct! x.h<x.n):=by
  have q:W.eraseIdx j=W.filter λx=>decide kw_:=by
   have nd:=g.nd;rw[<-List.take_append_drop j W,KA hl,e]at nd;have mw:=IM.mp nd;have nc:=HR.mp mw.2.1;rw[KU]
   conv=>rhs;rw[<-List.take_append_drop j W,KA hl,e]
   rw[OZ,JT d_,B9!,B9!]
   .exact HF λz=>nc.1 (z▸hx)
   .exact HF λz=>mw.2.2 x hx o GR z
  rw[q];refine KS λx hx=>?_;have Y:=g.wn x hx;rw[JH,HS,HS,xR];by_cases c:o.h=x.h
  .rw[HC c];rw[c]at hn;show"!|"
   .intro z;have:x.n≠o.n:=λz'=>z (hU.uniq x g7! o ho c.symm z');omega
   .intro z z';rw[z']at z Y hn;omega
  .rw[HA c];exact⟨λ_=>Y,λ_ z=>c (z▸rfl)⟩
 have le:=List.length_eraseIdx_of_lt hl;have ay:(ct!).length+(c7!).length=aE_+aF!:=by rw[HN];show aE_+1+_=_;omega
 refine⟨⟨B8_,G_,G_,g.nd.sublist (List.eraseIdx_sublist _ _),by have:=g.w8;omega⟩,dJ_,G_,ee,ay⟩
 .rw[ee]at hx;exact JF (JG.mp hx).2
 .obtain hx|hx:=hx
  .obtain z|z:=GS.mp hx
   .exact g.sub x du!
   .rw[a7!];exact ho
  .exact g.sub x (.inr (List.mem_of_mem_eraseIdx hx))
 .rw[dB];exact List.prefix_append _ _
 .obtain z|z:=GS.mp hx
  .exact dE!
  .rw[a7!];exact .inr hw
def Gd.wait(g:ff_)(ho:c6_)(hn:nh S o.h<o.n)(hw:o∉W)(hl:aF!<8):Gd U S ky!:=by
 refine⟨g.hS,G_,G_,?_,by rw[HN];show aF!+1<=8;omega⟩
 .obtain z|z:=GS.mp hx
  .exact g.wn x z
  .rw[a7!];exact hn
 .obtain hx|hx:=hx
  .exact g.sub x px_
  .obtain z|z:=GS.mp hx
   .exact g.sub x du_
   .rw[a7!];exact ho
 .rw[IM];exact⟨g.nd,R_,λa ha b hb z=>hw (by rw[hc_]at z;exact z▸ha)⟩
structure Rc(U S W:c!)(o:Op)(S' W':c!):Prop where
 g:Gd U S' W'
 n:Nnx S' W'
 yes:o.n=nh S o.h+1->Ex ct! W S' W'
 no:o.n≠nh S o.h+1->S'=S/\W'=if nh S o.h<o.n/\o∉W/\aF!<8 then W++[o]else W
inductive Rcs(U:c!):List Op->List Op->List Op->List Op->List Op->Prop
 |nil {S W:c!}:Rcs U [] S W S W
 |cons {o:Op} {os S W S1 W1 S2 W2:c!}:Rc U S W o S1 W1->Rcs U os S1 W1 S2 W2->Rcs U gX! S W S2 W2
def Rc.uniq{Sb:c!}(hU:Uw U)(hq:pu!)(g:ff_)(gb:Gd U Sb W)(ho:c6_)(n:Nnx S W)(a:Rc U S W o S1 W1)(b:Rc U Sb W o S2 W2):pu_/\W1=W2/\pv!+pw!=pv_+aE_:=by
 have hn:nh S o.h=nh Sb o.h:=by unfold nh;rw[hq]
 by_cases c:o.n=nh S o.h+1
 .have hw:o∉W:=λz=>n o z c;have r:=Ex.uniq hU (λh=>by rw[dB,dB,hq]) (g.hist hU ho c) (gb.hist hU ho py_) a.g b.g (a.yes c) (b.yes py_) a.n b.n;refine⟨r.1,r.2.1,?_⟩;have l:=r.2.2;rw[HN,HN]at l;have:[o].length=1:=rfl;omega
 .obtain⟨e1,e2⟩:=a.no c;obtain⟨e3,e4⟩:=b.no py_;rw[e1,e3,e2,e4,hn];exact Ca_
def Rcs.uniq{os:c!}(hU:Uw U)(r:Rcs U os S W S1 W1):∀{Sb:c!},(∀h,hs S h=hs Sb h)->Gd U S W->Gd U Sb W->pz!->Nnx S W->Rcs U os Sb W S2 W2->pu_/\W1=W2/\pv!+pw!=pv_+aE_:=by
 induction r with
 |nil=>intro Sb hq g gb _ _ b;cases b;exact Ca_
 |cons a r ih=>
  intro Sb hq g gb ho n b;cases b with
  |cons b s=>
   obtain⟨Y,h2,h3⟩:=Rc.uniq hU hq g gb (ho _ GR) n a b;subst h2;obtain⟨k1,k2,k3⟩:=ih Y a.g b.g (λo h=>ho o (GO _ h)) a.n s;exact⟨k1,k2,m_⟩
end
section
variable{t:Bl}{M:Mh}{ρ:Ab}{yy:Int}{a ta wa:yz!}{Wt:List Op}{out:D}{S:List Op}{kl:List Int}{ca:Int->Addr}
def bZ(hp:bT!):Dl M z_=some oY_:=by simp[Dl,hp]
def gA(hp:M p=some A_):Jv M z_=some (p,xs):=by simp[Jv,hp]
def CT(fa:i_)(ρ:Ab)(d:D)(M:Mh)(R:t_):Prop:=Du (Jv M d) λ_=>wl fa ρ M λv M2=>Du o0! λq=>o0_<big/\R .non AN!
def qM(h:fo ρ M λd M1=>CT fa ρ d M1 λ_ M2=>q ρ M2 R):Ad (Bb (Hi fo e6_)) q ρ M R:=h
def iZ{xs:b!}{f:i_}{R:t_}(hp:M p=some A_)(hf:f ρ=some v)(hl:g!<big)(k:R .non (mup M p (.lst (xs++[v])))):CT f ρ z_ M R:=by unfold CT;rw[gA hp];refine dF ?_;rw[bM hf,gA hp];exact dF ⟨hl,k⟩
def b7v{σ:p_}{ep:Nat}{fo:WE}{fa:i_}{K:t_}(ho:Bf_)(Y:pz_)(hp:bT!)(hk:a3!)(hl:cp_)
  (old:∀q v,M q=none->kget σ y=some v->K v g7_)(new:∀q,M q=none->kget σ y=none->K c1_ (mup g7_ p (.dct (Bq σ y c1_) bU_))):Fv fo e6_ cF_ ρ M K:=by
 unfold Fv;refine ho _ ?_;rw[dQ!];refine dF ?_;rw[bM Y];refine⟨Q_,c3!⟩;have pq:p≠q:=cZ Cb_ hq;show Du (Dl g7_ z_) _;rw[bZ ((mup_ne pq).trans hp)];refine dF ?_;rw[hk];refine dF pA!;cases e:kget σ y with
 |some v=>exact old q v hq e
 |none=>exact new q hq e
def pO{o:Op}{R:t_}(hA:ab_)(hS:aE_<200)(hR:∀M' bu bv,Ba t M' yy a ta wa Wt .non ct! bu bv->Mv M ky_ M' (Ow a ta wa bu bv)->R .non M'):Gz t pp! M R:=by
 obtain⟨ep,ht⟩:=hA.tk;refine p!;refine qM ?_;have i0:f2 ixD C! F_ [q_,H!]=some cr!:=gY o;have VV:ko_<200:=JO hA.len hS;have hlS:(cr_).length<200:=JO (zE S o.h) hS;have at_:a≠ta:=λz=>by have:=hA.ob;rw[z,ht]at this;cases this
 have aw:a≠wa:=λz=>by have:=hA.ob;rw[z,hA.wt]at this;cases this
 have tw:ta≠wa:=λz=>by rw[z,hA.wt]at ht;cases ht
 have cA:∀h∈kl,ca h≠a:=λh hh z=>by have:=hA.cl h hh;rw[z,hA.ob]at this;cases this
 have cT:∀h∈kl,ca h≠ta:=λh hh z=>by have:=hA.cl h hh;rw[z,ht]at this;cases this
 refine b7v (k:=g8!) g4! i0 ht rfl bX_ (λq v hq e=>?_) (λq hq e=>?_)
 .have aq:a≠q:=cZ kp! hq;have tq:ta≠q:=cZ kp_ hq;have wq:wa≠q:=cZ kq! hq;have cq:∀h∈kl,ca h≠q:=λh hh=>cZ kq_ hq;rw[fL]at e;have c:o.h∈kl:=by
   by_cases c:o.h∈kl
   .exact c
   .rw[HA c]at e;cases e
  rw[HC c]at e;cases e;refine iZ (p:=ca o.h) (v:=o.v) ((mup_ne (cq _ c)).trans (hA.cl _ c)) rfl bX_ ?_;generalize e2:mup g7_ kz! Cc_=M2;have m2:∀b,b≠q->b≠ca o.h->M2 b=M b:=λb Y h2=>by rw[<-e2,jl_,eQ!]
  have m2c:M2 kz!=some Cc_:=by rw[<-e2];exact mup_same
  refine mK ?_;rw[pr_];refine gB (fs:=Cd_) rfl ((m2 a aq (IA (cA _ c))).trans hA.ob) kf_ hP5 ?_;refine hR _ kl ca ⟨mup_same,⟨ep,?_⟩,?_,pA_,hA.nk,dJ_,hA.cw,hA.ci,?_⟩ ⟨pl_,br_⟩
  .rw[Ce!,m2 ta tq (IA (cT _ c))];exact ht
  .rw[Ce_,m2 wa wq (IA (hA.cw _ c))];exact hA.wt
  .rw[mup_ne (cA h hh),dB,jJ];by_cases z:o.h=h
   .rw[HC z,<-z,m2c,HZ];rfl
   .rw[HA z,IB,m2 _ (cq h hh) λy=>z (hA.ci _ hh _ c y).symm];exact hA.cl h hh
  .rw[dB,jJ];by_cases z:o.h=h
   .rw[HC z];subst z;simp[c]
   .rw[HA z,IB];exact hA.mem h
  .rw[HN];have:=hA.len;omega
  .rw[Cf!,m2 b pB! λz=>ho (.inr (.inr (.inr ⟨_,c,z⟩)))]
 .have aq:a≠q:=cZ kp! hq;have tq:ta≠q:=cZ kp_ hq;have wq:wa≠q:=cZ kq! hq;have cq:∀h∈kl,ca h≠q:=λh hh=>cZ kq_ hq;rw[fL]at e;have c:o.h∉kl:=by
   by_cases c:o.h∈kl
   .rw[HC c]at e;cases e
   .exact c
  have qt:Bq g3! cr! c1_=g3!++Cg!:=kN (λz=>by
   rw[JJ]at z;obtain⟨x,hx,ex⟩:=HI.mp z;exact c (by rw[<-D.int.inj ex];exact hx))
  rw[qt];refine iZ (p:=q) (v:=o.v) (xs:=[]) ((mup_ne (IA tq)).trans mup_same) rfl b_ ?_;generalize e2:mup (mup g7_ ta Cg_) q (.lst ([]++bW!))=M2;have m2:∀b,b≠q->b≠ta->M2 b=M b:=λb Y h2=>by rw[<-e2,eQ!,jl_,eQ!]
  have m2q:M2 q=some (.lst bW!):=by rw[<-e2];exact mup_same
  have m2t:M2 ta=some Cg_:=by rw[<-e2,mup_ne tq];exact mup_same
  refine mK ?_;rw[pr_];refine gB (fs:=Cd_) rfl ((m2 a aq at_).trans hA.ob) kf_ hP5 ?_;have nc:∀h∈kl,h≠o.h:=λh hh z=>c (z▸hh);have zz:hs S o.h=[]:=hA.nol c;refine hR _ (kl++[o.h]) (λh=>if h=o.h then q else ca h) ⟨mup_same,⟨ep+1,?_⟩,?_,pA_,?_,dJ_,pA_,λh hh h' qg ee=>?_,?_⟩ ⟨pl_,bD_⟩
  .rw[Ce!,m2t,HZ];congr 3
   .apply QT;intro h hh;rw[HA (nc h hh)]
   .show _=[(D.int o.h,D.fn (if o.h=o.h then q else ca o.h))];rw[A!]
  .rw[Ce_,m2 wa wq (IA tw)];exact hA.wt
  .show mup M2 a _ pC!=_;by_cases z:h=o.h
   .rw[HC z,mup_ne (IA aq),m2q,z,dB,jJ,A!,zz];rfl
   .have qg:h∈kl:=(pC_).resolve_right λy=>z pD!;rw[HA z,mup_ne (cA h qg),m2 _ (cq h qg) (cT h qg),dB,jJ,HA (IA z),IB];exact hA.cl h qg
  .rw[IM];exact⟨hA.nk,HR.mpr ⟨JM,KZ⟩,λx hx y hy=>by rw[GZ.mp hy];exact nc x hx⟩
  .rw[dB,jJ,GS,GZ];by_cases z:o.h=h
   .rw[HC z];simp[z]
   .rw[HA z,IB,<-hA.mem h];simp[IA z]
  .show pC!≠wa;by_cases z:h=o.h
   .rw[HC z];exact IA wq
   .rw[HA z];exact hA.cw h ((pC_).resolve_right λy=>z pD!)
  .have g:∀x,x∈kl++[o.h]->x≠o.h->x∈kl:=λx hx z=>(cQ!).resolve_right λy=>z pD!;have td:pC!=(if h'=o.h then q else ca h'):=ee;by_cases z:h=o.h
   .by_cases z':h'=o.h
    .rw[z,z']
    .rw[HC z,HA z']at td;exact absurd td.symm (cq h' Ci!)
   .by_cases z':h'=o.h
    .rw[HA z,HC z']at td;exact absurd td (cq h (g h hh z))
    .rw[HA z,HA z']at td;exact hA.ci h (g h hh z) h' Ci! td
  .rw[HN,HN];have:=hA.len;simp;omega
  .rw[Cf!,m2 b pB! λz=>ho g8_]
  .obtain z|z|z|⟨h,hh,z⟩:=hb
   .exact .inl du!
   .exact .inl g8_
   .exact .inl (.inr g8_)
   .have z':b=if h=o.h then q else ca h:=z
    by_cases e:h=o.h
    .rw[HC e]at z';rw[z'];exact .inr hq
    .rw[HA e]at z';exact .inl (.inr (.inr (.inr ⟨h,(pC_).resolve_right λx=>e (GZ.mp x),z'⟩)))
def Ba.setW{W':c!}(hA:ab_):Ba t Ci_ yy a ta wa W' out S kl ca/\Mv M ky_ Ci_ ky_:=by
 obtain⟨ep,ht⟩:=hA.tk;have aw:a≠wa:=λz=>by have:=hA.ob;rw[z,hA.wt]at this;cases this
 have tw:ta≠wa:=λz=>by rw[z,hA.wt]at ht;cases ht
 exact⟨{hA with ob:=(mup_ne aw).trans hA.ob,tk:=⟨ep,(mup_ne tw).trans ht⟩,wt:=mup_same,cl:=λh hh=>(mup_ne (hA.cw h hh)).trans g3_},⟨λb _ ho=>mup_ne λz=>ho (.inr g8_),br_⟩⟩
def Zo(S:c!)(o:Op):Bool:=o.n==nh S o.h+1
def BI(t:Bl):WE:=Cd 1 [0] (Ci dq_) G! uF_ i!
def a2g(h0:fVar 0 ρ=some cg!)(hc:Uh 1 [0] ρ=[none,q_])(hA:ab_)(hl:ps_<200):Pu (BI t) ρ M (.lst ((Wt.filter (Zo S)).map Op.v)):=λK hK=>by
 unfold BI Cd Ci;refine dZ (aV h0) hA.ob hF3 _ ?_;show(match M wa with|some (.lst xs)=>_|_=>False);rw[hA.wt];refine kB!;rw[hc];refine dS (λd=>match d with|.tup (.int h::.int n::_)=>n==pq!+1|_=>false) id hA.wt _ _ kB_ ?_
 .show"!H";exact⟨[H!,q_],rfl,λK hK=>jB (iV pE! g5_ (tJ (o:=o) hA)) K hK,kC!⟩
 .rw[PY,QI];exact hK
structure Wa where
 M:Mh
 W:List Op
 S:List Op
 kl:List Int
 ca:Int->Addr
structure Hd(t:Bl)(yy:Int)(a ta wa:yz!)(U:c!)(s:Wa):Prop where
 hA:Ba t s.M yy a ta wa s.W .non s.S s.kl s.ca
 g:Gd U s.S s.W
structure To(a ta wa:yz!)(s s':Wa):Prop where
 ex:Ex s.S s.W s'.S s'.W
 mv:Mv s.M pE_ s'.M kC_
def To.refl{s:Wa}(hw:∀o∈s.W,nh s.S o.h<o.n):To a ta wa s s:=⟨.refl hw,.refl⟩
def To.trans{s s1 s2:Wa}(h:To a ta wa s s1)(g:To a ta wa s1 s2):To a ta wa s s2:=⟨h.ex.trans g.ex,h.mv.trans g.mv⟩
variable{U:List Op}{s:Wa}{o:Op}
def b5y{x:Op}(h:eqD x.v o.v=true):x.h=o.h/\x.n=o.n:=by unfold Op.v eqD Fq at h;rw[HQ,rD]at h;unfold Fq at h;rw[HQ,rD]at h;exact⟨JF h.1,JF h.2.1⟩
def xG{l:c!}(h:∀o∈l,DG o.d):Bt Cl!=true/\Dt Cl!<=40:=by
 refine⟨oZ λd hd=>?_,IL (tS (n:=5) λd hd=>?_) b_⟩
 .show"!H";exact(Cl_).1
 .show"!H";exact(Cl_).2
def Hd.dg(hU:Uw U)(h:dQ_):∀o∈s.W,DG o.d:=λo ho=>(hU.op o (h.g.sub o h8!)).dg
def Hd.eqv(hU:Uw U)(h:dQ_)(ho:c6_):∀x∈s.W,eqD x.v o.v=true↔x=o:=λx hx=>by
 refine⟨λe=>hU.uniq x Cm! o ho (b5y e).1 (b5y e).2,λe=>?_⟩;subst e;exact kP _ (gC (h.dg hU x hx)).1
def Hd.rem(hU:Uw U)(h:dQ_)(ho:o∈s.W):∃j,(g9_).findIdx? pG!=some j/\s.W[j]?=some o:=by
 have hu:=h.g.sub o h8!;cases e:(g9_).findIdx? pG! with
 |none=>
  have:=PH.mp e o.v (HH ho);rw[(h.eqv hU hu o ho).mpr rfl]at this;cases this
 |some j=>
  show"#<";exact⟨j,rfl,by rw[HU hl,(h.eqv hU hu _ (IZ hl)).mp Y]⟩
def EI(t:Bl):WS:=Ad uI!
 (Ad uJ_
 (Ad (Lc 1 cG_)
 (Ai 2 (BI t))))
def EH:Ab->Option Bool:=fT uG_
def c6t{i:Nat}{f:i_}{x b:Int}{R:j!}(hi:ρ[i]?=some (some (.int x)))(hf:f ρ=some jJ!)(k:R (.nx (ρ.set i (some (.int (x+b))))) M):Lc i (wl f) ρ M R:=by unfold Lc;rw[hi];show wl f ρ M _;rw[bM hf];exact k
def c1r{k:Int}{l:c!}{K:j!}(hU:Uw U)(h:dQ_)(ho:o∈s.W)(hn:o.n=nh s.S o.h+1)
  (hK:∀s1,Hd t yy a ta wa U s1->To a ta wa s s1->s1.W.length<fi!->s1.S.length=pG_+1->K (.nx [q_,pH_,some (.lst ((s1.W.filter (Zo s1.S)).map Op.v))]) s1.M):
  EI t kD! s.M K:=by
 have hl:=h.g.ln hU;obtain⟨j,e1,e2⟩:=h.rem hU ho;have ge:=h.g.takeW hU e2 hn;have ix:f2 ixD K! F_ kD!=some o.v:=by
  show atI Cn_ 0=_;simp[atI,Eh]
 unfold EI Ad;refine iY ?_;unfold Nj;refine dZ aP_ h.hA.ob hF3 _ ?_;rw[gA h.hA.wt];refine dF ?_;rw[bM ix,gA h.hA.wt];obtain⟨n1,n2⟩:=xG (h.dg hU);refine dF ⟨(gC (h.dg hU o ho)).1,n1,n2,?_⟩;show Du ((g9_).findIdx? λx=>eqD x o.v) _;rw[e1];refine dF ?_;have ee:(g9_).eraseIdx j=(Co_).map Op.v:=by rw[KU,KU,HZ,List.map_take,List.map_drop]
 show Bb _ _ (mup s.M wa (.lst ((g9_).eraseIdx j))) _;rw[ee];obtain⟨j0,va⟩:=h.hA.setW (W':=Cp!);refine iY (wM (a:=B_) (b:=o.v) rfl ix (pO j0 a! λM2 w9 xa k8 N'=>?_));have hj:=(HG.mp e2).1;have le:=List.length_eraseIdx_of_lt hj;show Lc 1 cG_ kD! M2 _;refine c6t (x:=k) (b:=1) rfl rfl ?_;show Ai 2 (BI t) [q_,pH_,Co!] M2 _;unfold Ai;refine a2g rfl rfl k8 a! _ ?_;exact hK ⟨M2,Cp!,s.S++[o],w9,xa⟩ ⟨k8,ge.1⟩ ⟨ge.2,va.trans N'⟩ (by show(Co_).length<_;omega) (by show(s.S++[o]).length=_;rw[HN];rfl)
def c1s(hU:Uw U):∀(m:Nat) (k:Int) (s:Wa) (R:j!),fi!<=m->Hd t yy a ta wa U s->
  (∀s' d,Hd t yy a ta wa U s'->Nnx s'.S s'.W->To a ta wa s s'->R (.nx [q_,Cq_,d]) s'.M)->
  Er (Dg EH) (EI t) (m+1) [q_,c7_,some Cr!] s.M R:=by
 intro m
 induction m with
 |zero=>
  intro k s R hm h hR;have e:s.W=[]:=OA.mp (Nat.le_zero.mp hm);unfold Er;refine dU (b:=false) (by rw[e];rfl) _ ?_;rw[L_];have:=hR s (some Cr!) h (λx hx=>by rw[e]at hx;cases hx) Cr_;simpa using this
 |succ m ih=>
  intro k s R hm h hR;cases e:s.W.filter pK_ with
  |nil=>
   unfold Er;refine dU (b:=false) rfl _ ?_;rw[L_];have:=hR s (some bW_) h (λx hx z=>List.filter_eq_nil_iff.mp e x hx (JC.mpr z)) Cr_;simpa using this
  |cons o l=>
   have ho:=JG.mp (show o∈s.W.filter pK_ by rw[e];exact GR);have tt:EH kD!=some true:=by
    simp[EH,fT,f2,f1,aCons,aNil,fVar,fC,Bp,Hq,Bu]
    try omega
   unfold Er;refine dU tt _ ?_;rw[A!];refine c1r hU h ho.1 (JC.mp ho.2) λs1 Y to1 w1 l1=>?_;refine ih S_ s1 R a! Y λs' d h' k9 tf=>?_;have:=hR s' d h' k9 (to1.trans tf);rw[show k+1+(kE! - pL_)=k+(kE! - kE_)by omega];show"#-"
def oH{R:t_}(hU:Uw U)(h:dQ_)(hR:∀s',Hd t yy a ta wa U s'->Nnx s'.S s'.W->To a ta wa s s'->R pM! s'.M):Cz t [B_] s.M R:=by have hl:=h.g.ln hU;refine p!;refine eL cs! ?_;refine eL (f:=BI t) (a2g rfl rfl h.hA a!) ?_;unfold Ad;refine⟨_,c1s hU _ 0 s _ u! h λs' d h' k9 tf=>?_⟩;exact dG (aV (d:=.int pJ_) pM_) (hR s' h' k9 tf)
end
mutual
noncomputable def Oc:D->Bool
 |.non=>true
 |.int _=>true
 |.str _=>true
 |.tup xs=>Sn xs
 |_=>false
noncomputable def Sn:List D->Bool
 |[]=>true
 |x::xs=>Oc x&&Sn xs
end
mutual
theorem b6b:∀(a b:D),Oc a=true->Oc b=true->eqD a b=true->a=b
 |.non,b,_,hb,e=>by cases b<;>first|rfl|(simp[eqD]at e)|(simp[Oc]at hb)
 |.int i,b,_,hb,e=>by cases b<;>first|(simp[Oc]at hb;done)|(simp[eqD]at e;rw[e])|(simp[eqD]at e)
 |.str i,b,_,hb,e=>by cases b<;>first|(simp[Oc]at hb;done)|(simp[eqD]at e;rw[e])|(simp[eqD]at e)
 |.tup xs,b,ha,hb,e=>by
  cases b with
  |tup ys=>
   have:=a7v xs ys (by simpa[Oc]using ha) (by simpa[Oc]using hb) (by simpa[eqD]using e);rw[this]
  |_=>simp[eqD]at e
theorem a7v:∀(a b:b!),Sn a=true->Sn b=true->Fq a b=true->a=b
 |[],b,_,_,e=>by cases b with|nil=>rfl|cons=>simp[Fq]at e
 |x::xs,b,ha,hb,e=>by
  cases b with
  |nil=>simp[Fq]at e
  |cons y ys=>
   simp only[Sn,HQ]at ha hb;simp only[Fq,HQ]at e;rw[b6b x y ha.1 hb.1 e.1,a7v xs ys ha.2 hb.2 e.2]
end
def nA(h:j7_):Oc x=true:=by obtain⟨a,b,rfl,_⟩:=h;rfl
def iE(h:Cr x):Oc x=true:=by
 obtain rfl|rfl|h:=h
 .rfl
 .rfl
 .exact nA h
def a6d(h:Mn x):Oc x=true:=by
 obtain rfl|h:=h
 .rfl
 .exact nA h
def b1p(h:Kt x):Oc x=true:=by
 obtain rfl|h:=h
 .rfl
 .obtain⟨a,b,c,rfl,_⟩:=h;rfl
def a2r(h:DG d):Oc d=true:=by
 cases h with
 |put Y h2=>simp[Oc,Sn,iE Y,a6d h2]
 |move Y h2 h3=>simp[Oc,Sn,iE Y,iE h2,a6d h3]
 |drop Y=>simp[Oc,Sn,iE Y]
 |write Y h2 _ _ _=>simp[Oc,Sn,iE Y,b1p h2]
 |cut Y h2 _ _=>simp[Oc,Sn,iE Y]
 |set Y _ _ _=>simp[Oc,Sn,iE Y]
 |undo Y=>simp[Oc,Sn,nA Y]
 |redo Y=>simp[Oc,Sn,nA Y]
def a4b{x y:Op}(h:x.v=y.v):x=y:=by obtain⟨a,b,c,d⟩:=x;obtain⟨a',b',c',d'⟩:=y;simp only[Op.v,D.tup.injEq,OP,D.int.injEq,and_true]at h;obtain⟨rfl,rfl,rfl,rfl⟩:=h;rfl
def lW{x y:Op}(hx:OpF x)(hy:OpF y):eqD x.v y.v=decide d8!:=by
 rw[JH,HS];show"!|"
 .intro e;refine a4b (b6b _ _ ?_ ?_ e)
  .simp[Op.v,Oc,Sn,a2r hx.dg]
  .simp[Op.v,Oc,Sn,a2r hy.dg]
 .rintro rfl;exact kP _ (gC hx.dg).1
def b3u{x y:Op}(hx:OpF x)(hy:OpF y):Ed x.v y.v=some Cs!:=by unfold Ed;have Y:=gC hx.dg;have h2:=gC hy.dg;rw[Y.1,h2.1,lW hx hy,show decide (dep x.v<=40)=true from HF a!];by_cases c:x=y<;>simp[c]
section
variable{t:Bl}{M M0:Mh}{ρ:Ab}{yy:Int}{a ta wa p:yz!}{Wt:List Op}{out:D}{S dn:List Op}{kl:List Int}{ca:Int->Addr}{E:EK}{o:Op}
def a3m{σ:p_}{ep:Nat}{fo fa fb:i_}{K:t_}(h0:kb_)(Y:pz_)(h2:Ct!)(hp:bT!)(hk:a3!)(hl:cp_)(hn:y∉σ.map c_)(hK:K z (mup M p (.dct (σ++[(y,z)]) bU_))):Fv cm_ e6_ (wl fb) ρ M K:=by unfold Fv;rw[bM h0,dQ!];refine dF ?_;rw[bM Y,c5!,dQ!,hk];refine dF (dF pA!);rw[nM hn,kN hn];exact hK
def a3l{σ:p_}{ep:Nat}{fo fa fb:i_}{K:t_}(h0:kb_)(Y:pz_)(h2:Ct!)(hp:bT!)(hk:a3!)(hl:cp_)(hn:kget σ y=some v)(hK:K v M):Fv cm_ e6_ (wl fb) ρ M K:=by unfold Fv;rw[bM h0,dQ!];refine dF ?_;rw[bM Y,c5!,dQ!,hk];refine dF (dF pA!);rw[hn];exact hK
def sP(o:Op):ixD o.nm N_=some cr!:=by simp[Op.nm,ixD,atI,Eh]
def a4n(o:Op):ixD o.nm aJ_=some km_:=by simp[Op.nm,ixD,atI,Eh]
def iX{x:Op}:x.nm=o.nm↔x.h=o.h/\x.n=o.n:=by simp[Op.nm]
def a3u{i:Nat}{R:j!}(hd:Cu_)(hs:Zn d)(h:E C M):Fi C E Cv! ρ M R:=⟨⟨⟨d,hd,hs⟩,trivial⟩,λ_=>h⟩
def b3q(h:bz_):Zn o.nm:=by
 have Y:=h.hh;have h2:=h.n1;have h3:=h.n2;have z:(2000:Nat)<10 ^ 60:=by decide
 exact tW!
nonrec def sameN(o x:Op):Bool:=decide hb_
def Oh(S:c!)(yy:Int)(o:Op)(dn:c!):Option (List Op):=
 if o.n<=nh S o.h then(if cr_[(ay!).toNat]?=some o then some dn else none)
 else if o.h=yy then none
 else match dn.find? dR_ with
  |some x=>if x=o then some dn else none
  |none=>some (dn++[o])
def Ll(S:c!)(yy:Int):List Op->List Op->Option (List Op)
 |[],dn=>some dn
 |o::os,dn=>(pO!).bind pP!
def lF:∀{dn:c!},kget dS! o.nm=(dn.find? dR_).map Op.v
 |[]=>rfl
 |x::dn=>by
  show(if x.nm=o.nm then some x.v else kget dS! o.nm)=_;rw[LG];by_cases c:x.nm=o.nm
  .rw[HC c,show sameN o x=true from HF (iX.mp c)];rfl
  .rw[HA c,show sameN o x=false from HB λz=>c (iX.mpr z)];exact lF
structure Fs(S dn:c!):Prop where
 op:∀o∈dn,OpF o
 nd:(pP_).Nodup
 n:∀o∈dn,nh S o.h<o.n
def Fs.nil:Fs S []:=⟨Cx!,KZ,Cx!⟩
def Fs.step{bi:c!}(h:kF_)(ho:bz_)(e:Oh S yy o dn=some bi):Fs S bi/\bi.length<=hd!+1:=by
 unfold Oh at e;show"!6"
 .show"!6"
  .cases e;exact Cx_
  .cases e
 .show"#5"
  .cases e
  .show"!6"
   .show"!6"
    .cases e;exact Cx_
    .cases e
   .rename_i f;cases e;refine⟨⟨G_,?_,G_⟩,by rw[HN];exact HK _⟩
    .obtain z|z:=GS.mp hx
     .exact h.op x z
     .rw[a7!];exact ho
    .rw[HZ,IM];refine⟨h.nd,R_,λx hx y hy z=>?_⟩;rw[HD,LZ,GZ]at hy;obtain⟨x',kh,rfl⟩:=HI.mp hx;have:=QY.mp f x' kh;exact this (HF (iX.mp (z.trans hy)))
    .obtain z|z:=GS.mp hx
     .exact h.n x z
     .rw[a7!];omega
def FE(t:Bl)(E:EK):WS:=(Ad fY_
 (Ad ut_
 uv_))
def b9c{ep:Nat}{R:j!}(hA:pR!)(hS:Cv S)(h0:M0 p=none)(fr:∀b,M0 b≠none->M b=M0 b)(ho:bz_)(hd:kF_)(hl:hd!<64)(hp:M p=some pS!)
  (hR:∀M' bi bc y,Oh S yy o dn=some bi->M' p=some Cy_->fk!->R (.nx [q_,ag_,ah!,H!,gU!,y]) M')
  (hE:∀M',Oh S yy o dn=none->fk!->E t.Unlike M'):
  FE t E CA! M R:=by
 have jh:=hA.keep fr;have es:Dj T_ Al bn! CA!=some o.nm:=a0g o;refine eL (aV es) ?_;have Y:=jB (iV (ρ:=pT!) g5_ (aV (f:=fVar 3) rfl) (mG (o:=o) jh));have li:∀(x:Op) (M2:Mh) (xb:c!) (gg:Nat),OpF x->(∀b,M0 b≠none->M2 b=M0 b)->M2 p=some (.dct (xb.map λo=>hc!) gg)->(x=o->Oh S yy o dn=some xb)->(x≠o->Oh S yy o dn=none)->
   At uv! mP! Bm pU! M2 R:=λx M2 xb gg hx ww p2 k1 k2=>by
  have h3:fT uw! pU!=some CB_:=by
   have:f2 Ed bp_ T_ pU!=some (.bl CB_):=b3u hx ho;unfold fT;rw[this];rfl
  by_cases c:x=o
  .rw[HB (λz=>z c)]at h3;exact iO (dU h3) (hR M2 xb gg _ (k1 c) p2 ww)
  .rw[HF c]at h3;exact eM (dU h3) (a3u (d:=o.nm) rfl pU_ (hE M2 (k2 c) ww))
 unfold Ad;by_cases c:o.n<=(ks!:Int)
 .rw[HF c]at Y;refine eM Y ?_;obtain⟨bc,ht⟩:=jh.tk;have m1:=ho.n1;have ai:(ay!).toNat<(cr_).length:=by omega
  have gs:cr_[(ay!).toNat]?=some cr_[(ay!).toNat]:=HU ai;have mx:=(eG.mp (IZ ai)).1;generalize cr_[(ay!).toNat]=x at gs mx;have hk:o.h∈kl:=(hA.mem _).mpr λz=>by rw[z]at gs;cases gs
  have i1:Do M kn_ cr!=some (.fn kz!):=(nQ (k:=g8!) ht rfl).trans BY!;have i2:Do M (.fn kz!) (.int ay!)=some x.v:=by
   simp only[Do,jh.cl _ hk];unfold atI Eh;rw[by_,HC CF_];show((cr_).map Op.v)[(ay!).toNat]?=_;rw[IK,gs];rfl
  have e2:f2 Dq cc_ s_ pT!=some (.int ay!):=by
   show(ixD o.nm aJ_).bind (λz=>Dq z aJ_)=_;rw[a4n];rfl
  unfold Ai;refine eK (eK (dZ aP_ jh.ob hF2) (aV (sP o)) i1) (aV e2) i2 _ ?_;refine li x M dn ep (hS.op x mx) fr hp mC_ λz=>?_
  .unfold Oh;rw[CI!,HC (by rw[gs,z])]
  .unfold Oh;rw[CI!,HA (by rw[gs];intro q;exact z (IW q))]
 .rw[HB c]at Y;have c':¬o.n<=nh S o.h:=c;have h2:Pe ut! pT! M c8_:=by
   refine jB (eK (aV (d:=e4!) (sP o)) (dZ aP_ jh.ob hF1) ?_);rw[dN]
  refine iO Y ?_;by_cases cy:o.h=yy
  .rw[JC.mpr cy]at h2;refine eM h2 (a3u (d:=o.nm) rfl pU_ (hE M ?_ fr));unfold Oh;rw[HA c',HC cy]
  .rw[IQ.mpr cy]at h2;refine iO h2 ?_;unfold Ai;cases f:dn.find? dR_ with
   |some x=>
    refine a3l (p:=p) (y:=o.nm) (z:=o.v) (v:=x.v) (k:=he!) rfl rfl rfl hp rfl bX_ (by rw[lF,f];rfl) ?_;refine li x M dn ep (hd.op x (LA f)) fr hp mC_ λz=>?_
    .show"#I";exact HC z
    .show"#I";exact HA z
   |none=>
    have hnn:o.nm∉(dS!).map c_:=λz=>by
     have:=yW.mpr z;rw[lF,f]at this;exact this rfl
    refine a3m (p:=p) (y:=o.nm) (z:=o.v) (k:=he!) rfl rfl rfl hp rfl bX_ hnn ?_;refine li o _ (dn++[o]) bU_ ho CL_ (by rw[mup_same,HZ];rfl) (λ_=>?_) λz=>absurd rfl z;show"#I"
def a6x(hA:pR!)(hS:Cv S)(h0:M0 p=none):∀(os dn:c!) (x1:D) (y3 y4 y5:R!) (ep:Nat) (M:Mh) (R:j!),CM!->CM_->Fs S dn->hd!+V_<64->M p=some pS!->
  (∀M' bi bc qh fw y5',Ll S yy os dn=some bi->Fs S bi->bi.length<64->M' p=some Cy_->fk!->R (.nx [q_,ag_,ah!,qh,fw,y5']) M')->
  (∀M',Ll S yy os dn=none->fk!->E t.Unlike M')->
  El am_ W! (FE t E) F! [q_,ag_,ah!,y3,y4,y5] M R
 |[],dn,x1,y3,y4,y5,ep,M,R,fr,_,hd,hl,hp,hR,_=>⟨trivial,hR M dn ep y3 y4 y5 rfl hd lr_ hp fr⟩
 |o::os,dn,x1,y3,y4,y5,ep,M,R,fr,hf,hd,hl,hp,hR,hE=>by
  refine aE!;rw[HJ]at hl;have ho:=hf o GR;refine b9c hA hS h0 fr ho hd a! hp (λM' bi bc y e cf qz=>?_) λM' e qz=>hE M' (by show(pO!).bind pP!=_;rw[e];rfl) qz;obtain⟨j1,l'⟩:=hd.step ho e;have ee:Ll S yy gX! dn=Ll S yy os bi:=by
   show(pO!).bind pP!=_;rw[e];rfl
  rw[ee]at hR hE;exact a6x hA hS h0 os bi x1 _ _ _ bc M' R qz (λx hx=>hf x aP!) j1 a! cf hR hE
def a4m{ms:c!}{R:t_}(hA:ab_)(hS:Cv S)(hw:CN!)(hm:c9!)(hl:CN_)
  (hR:∀M' p dn ep,Ll S yy dS_ []=some dn->Fs S dn->hd!<64->M' p=some pS!->a6!->R z_ M')
  (hE:∀M',Ll S yy dS_ []=none->a6!->E t.Unlike M'):Fk t pW_ M R E:=by
 refine p!;intro p hp;have fr:∀b,M b≠none->mup M p c3_ b=M b:=λb hb=>mup_ne (cZ hb hp);have j0:=hA.keep fr;unfold Ad Bs Ci;have px:Gk cq_ fc_ pX!=some (.lst ((dS_).map Op.v)):=by
  simp only[Gk,j0.wt];rw[HC CO!,HZ]
 refine eK (dZ aP_ j0.ob hF3) (aV (d:=hf!) rfl) px _ ?_;exact a6x (p:=p) hA hS hp dS_ [] _ none none none 0 _ _ fr (λo ho=>(dT!).elim (hw o) (hm o)) .nil CO_ mup_same (λM' dn bc y3 y4 y5 e hd g0 g1 g2=>dG kI! (hR M' p dn bc e hd g0 g1 g2)) hE
end
section
variable{t:Bl}{M M0:Mh}{ρ:Ab}{yy:Int}{a ta wa p q:yz!}{Wt:List Op}{out:D}{S dn:List Op}{kl:List Int}{ca:Int->Addr}{E:EK}{o:Op}
def c1y{σ:p_}{ep:Nat}{fo fi f:i_}{R:j!}(h0:kb_)(Y:eJ!)(h2:f ρ=some v)(hp:bT!)(hk:a3!)(hl:cp_)(k':R Z_ gY!):Cg cm_ gn_ (wl f) ρ M R:=by unfold Cg;rw[c5!,bM h0,bM Y,sD hp hk hl];exact k'
def nN{f:Op->D}{g:Op->D}:∀{l:c!},(fj_).Nodup->∀{o:Op},o∈l->kget (l.map λo=>(f o,g o)) (f o)=some (g o)
 |[],_,o,h=>by cases h
 |x::l,nd,o,h=>by
  rw[HD,HR]at nd;rw[HD];unfold kget;obtain rfl|h:=GT.mp h
  .rw[A!]
  .rw[HA λz=>nd.1 (by rw[z];exact HH h),nN nd.2 h]
def Mj(o:Op):Int×Int:=(o.h,o.n)
def a1p{x y:Op}(h:Lm (Mj x) (Mj y)=true)(e:x.h=y.h):x.n<y.n:=by simp only[Lm,BB,Mj,e,JN,HS]at h;exact h
def Wh:List Op->(Int->Int)->Bool
 |[],_=>true
 |o::qs,f=>if o.tm<=f o.h then false else Wh qs λh=>if h=o.h then o.tm else f h
def b6v{qs:c!}{f:cB_}(c:o.tm<=f o.h):Wh (o::qs) f=false:=by rw[Wh,HC c]
def b6u{qs:c!}{f:cB_}(c:¬o.tm<=f o.h):Wh (o::qs) f=Wh qs λh=>if h=o.h then o.tm else f h:=by rw[Wh,HA c]
def c8n(i j:Int):Ih N! cm!=some (.bl hZ!):=rfl
def a8x{ft:WT}{i:Nat}{q2:WS}{R:j!}(h:e8!)(hd:Cu_)(hs:Zn d)(hE:E C M):Ad (At ft (Fi C E Cv!) Bm) q2 ρ M R:=by unfold Ad;exact eM h (a3u hd hs hE)
def GI(t:Bl)(E:EK):WS:=(Ad uw_
 (Ad uy!
 uz!))
def c1k{e0:Nat}(hA:pR!)(ju:M0 p=some (.dct σ e0))(h0:M0 q=none):∀(qs:c!) (f:cB_) (tj:p_) (ep:Nat) (y3 y4:R!) (M:Mh) (R:j!),CM!->(∀o∈qs,kget σ o.nm=some o.v/\OpF o)->M q=some (.dct tj ep)->
  (∀h,(kget tj dO_).getD BW_=.int (f h))->tj.length+qs.length<1000->
  (Wh qs f=true->∀M' qh fw,fk!->R (.nx [q_,ah!,a5_,qh,fw]) M')->
  (Wh qs f=false->∀M',fk!->E t.NoTime M')->
  El am_ W! (GI t E) (qs.map Op.nm) [q_,ah!,a5_,y3,y4] M R:=by
 intro qs
 induction qs with
 |nil=>intro f tj ep y3 y4 M R fr _ _ _ _ hR _;exact⟨trivial,hR rfl M y3 y4 fr⟩
 |cons o qs ih=>
  intro f tj ep y3 y4 M R fr hk hq ht hl hR hE;refine aE!;have jh:=hA.keep fr;have hp:=(fr p (by rw[ju];simp)).trans ju;obtain⟨hko,ho⟩:=hk o GR;simp only[HJ]at hl;have i1:Do M z_ o.nm=some o.v:=(nQ (k:=he!) hp rfl).trans hko;have i2:Do M o.v cD_=some g2!:=a4a o;refine eL (eK (eK kI! (aV (d:=o.nm) rfl) i1) BZ! i2) ?_;have ix:f2 ixD T_ F_ CR!=some cr!:=sP o;have hc:Pe ux_ CR! M (decide (o.tm<=f o.h)):=
   jB (eK (aV (d:=gR_) rfl) (jX (aV (d:=.fn q) rfl) (aV ix) (iV dT_ (aV ix) (nK jh)) hq (k:=g8!) rfl (ht o.h)) (c8n _ _))
  by_cases c:o.tm<=f o.h
  .rw[HF c]at hc;have e:=b6v (qs:=qs) c;exact a8x (i:=3) (d:=o.nm) hc rfl pU_ (hE e M fr)
  .rw[HB c]at hc;have e:=b6u (qs:=qs) c;rw[e]at hR hE;refine fE hc ?_;refine c1y (p:=q) (y:=e4!) (v:=gR_) (k:=g8!) rfl ix rfl hq rfl bf! ?_;refine ih _ _ _ (some o.nm) (some g2!) _ R CL_ CT_ mup_same (λh=>?_) (by have:=kput_len tj cr! g2!;omega) hR hE;by_cases d:h=o.h
   .rw[d,lG,A!];rfl
   .rw[pX λz=>d (pm!).symm,HA d];exact ht h
def Ur(S dn:c!):Bool:=Wh fl! (lt S)
def Fs.key(h:kF_):(dn.map Mj).Nodup:=by have hn:=h.nd;rw[NK,PR]at hn ⊢;exact hn.imp λ{x y} z e=>z (iX.mpr ⟨congrArg Prod.fst e,congrArg Prod.snd e⟩)
def tV{e0:Nat}{R:t_}(hA:ab_)(hd:kF_)(hl:hd!<64)(hp:M p=some CV!)
  (hR:Ur S dn=true->∀M',a6!->R .non M')(hE:Ur S dn=false->∀M',a6!->E t.NoTime M'):Gx t [B_,.fn p] M R E:=by
 refine p!;intro q hq;have qp:q≠p:=IA (cZ Cb_ hq);have hp1:mup M q c3_ p=some CV!:=(CV_).trans hp;have nk:=hd.key;unfold Bs Ci;have P':(fl!).Perm dn:=cJ dn;have hsort:Px CW! [.fn p]=some (.lst ((fl!).map Op.nm)):=by
  show((Dl CW! z_).bind λq=>(Vb km!).map D.lst)=_;rw[bZ hp1];show(Vb ((dS!).map c_)).map D.lst=_;have e1:(dS!).map c_=dn.map Op.nm:=by rw[JJ];rfl
  have e2:(pP_).map kf2=dn.map Mj:=by rw[JJ];rfl
  rw[e1];unfold Vb;rw[HC ⟨KO.mpr λd hd=>by obtain⟨o,_,rfl⟩:=HI.mp hd;rfl,by rw[e2];exact nk,u7_⟩];show some (D.lst (Gp kf2 pP_))=_;rw[rV (f:=Op.nm) (k:=Mj) (k':=kf2) λo=>rfl]
 refine lJ kI! hsort _ ?_;refine c1k hA hp hq fl! (lt S) [] 0 none none _ _ (λb hb=>mup_ne pB!) (λo ho=>⟨nN hd.nd CZ_,hd.op o CZ_⟩) mup_same (λh=>rfl) (by rw[P'.length_eq];simp;omega) (λe M' y3 y4 h=>hR e M' h) λe M' h=>hE e M' h
end
section
variable{t:Bl}{M M0:Mh}{ρ:Ab}{yy:Int}{a ta wa p q:yz!}{Wt:List Op}{out:D}{S dn U:List Op}{kl:List Int}{ca:Int->Addr}{E:EK}{o:Op}{s:Wa}
def Ot(d:D):Prop:=d=.non\/∃h tm dd,d=.tup [af_,ax_,jL_,dd]/\0<=h/\h<16
def Wi(d:D):Prop:=(∃o,OpF o/\d=o.v)\/Ot d
def c6s(h:Ot d):Bh t [d]=some X!:=by
 obtain rfl|⟨h,tm,dd,rfl,Y,h2⟩:=h
 .rfl
 .have b60:h.natAbs<Uo:=by unfold Uo;omega
  have e1:Es [af_,.int 16]=some u_:=rF b60 Y h2;have e2:Ca [ax_]=some X!:=by
   have:Dx [ax_]=some u_:=rE (by unfold Uo;decide);simp[Ca,Ho,Bk,As,Bi,fT,f1,aCons,aNil,fVar,this,f2,fC,Kc,Bu,Pn]
  have e3:Ch [.tup [af_,ax_]]=some X!:=by
   simp[Ch,Jz,Bk,As,sSeq,Dr,Bj,He,By,fT,Cu,fVar,Ei,f2,Jc,f1,aCons,aNil,Bp,fC,Bi,ixD,atI,Eh,e1,e2,Pn]
  simp[Bh,Gq,Bk,As,sSeq,Dr,Bj,He,By,fT,Cu,fVar,Ei,f2,Jc,f1,aCons,aNil,Bp,fC,Bi,Dj,Ay,Al,Ak,Cf,HT.sIx,e3,Pn]
def mS(h:bz_):¬Ot o.v:=by
 rintro(z|⟨Y,tm,dd,z,_⟩)
 .cases z
 .simp only[Op.v,D.tup.injEq,OP,D.int.injEq]at z;have:=h.n1;omega
def c3a(nd:t.nd)(h:Wi d):Bh t [d]=some (.bl C1!):=by
 obtain⟨o,ho,rfl⟩|h:=h
 .rw[c7u nd ho,HF (mS ho)]
 .rw[c6s h,HB λz=>z h]
def c6v{f:i_}(h:ci_):aCons f aNil ρ=some [d]:=by unfold aCons;rw[h];rfl
def c8q{g:aZ_}{fs:aC_}(h:gO!):f1 g fs ρ=g ds:=by unfold f1;rw[h];rfl
def a2x{fe:i_}{y:D->D}:∀(ds:b!),(∀d∈ds,fe [cp!]=some (y d))->Df G! ay_ fe cn! ds=some (ds.map y)
 |[],_=>rfl
 |d::ds,h=>by
  have ih:=a2x ds λx hx=>h x aP!;have h0:=h d GR;have hb:Ax 0 d cn!=some [cp!]:=rfl;simp only[Df,hb,KC,JN,h0,ih,LF,HD]
def tY{b:D->Bool}:∀(ds:b!),Ie C2_=some (ds.map b)
 |[]=>rfl
 |d::ds=>by
  show(Ie C2_).map (b d::·)=_;rw[tY ds];rfl
def a8i{xs:b!}(nd:t.nd)(hH:kL!)(hl:g!<64):By uC! p0!=some (decide C3_):=by
 have hc:Ff 1 [] iC_ G! ay_ uA_ p0!=some (.lst C4!):=by
  show(if g!<=big then Option.map D.lst (Df _ _ _ cn! xs)else none)=_;rw[cX!,a2x xs λd hd=>c3a nd (hH d hd)];rfl
 have ha:f1 Lr uB_ p0!=some (.bl C5!):=by
  rw[c8q (c6v hc)];show(Ie C4!).map C5_=_;rw[tY];show some (D.bl ((xs.map λd=>decide (¬Ot d)).all id))=_;congr 2;by_cases c:∃d∈xs,Ot d
  .rw[HF c];obtain⟨d,hd,hb⟩:=c;exact List.all_eq_false.mpr ⟨_,HH hd,by simp[hb]⟩
  .rw[HB c];refine KO.mpr λb hb=>?_;obtain⟨d,hd,rfl⟩:=HI.mp hb;exact HF λz=>c ⟨d,hd,z⟩
 unfold By fT;rw[ha];show some (! C5!)=_;rw[Bool.not_not]
def a5y:∀{xs:b!},(∀d∈xs,Wi d)->(¬∃d∈xs,Ot d)->∃ms:List Op,xs=ms.map Op.v/\∀o∈ms,OpF o
 |[],_,_=>⟨[],rfl,Bt!⟩
 |d::xs,h,n=>by
  obtain⟨ms,rfl,hm⟩:=a5y oT! λ⟨x,hx,hb⟩=>n C6!
  obtain⟨o,ho,rfl⟩|z:=h d GR
  .exact⟨o::ms,rfl,λx hx=>(p0_).elim (λz=>z▸ho) (hm x)⟩
  .exact absurd ⟨d,GR,z⟩ n
def a3o{ft:WT}{q2:WS}{R:j!}(h:e8!)(hE:E C M):Ad (At ft (Fi C E (wl (fC b2_))) Bm) q2 ρ M R:=by unfold Ad;exact eM h hE
def b0t{xs:b!}{R:t_}(nd:t.nd)(hH:kL!)(hl:g!<64)(hb:p1!)(hE:C6_):Cw t p1_ M R E:=by refine p!;have h:=a8i (x0:=B_) nd hH hl;rw[HF hb]at h;exact a3o (dU h) hE
def tW{g:Us}{f1 f2:i_}{K:t_}(Y:kM_)(h2:p2!)(k:g [b,c] M K E):Fj 2 g E oi_ ρ M K:=by unfold Fj Aa Ac;rw[bM Y,c5!];exact fb!
def c1p{g:Us}{f1:i_}{f2:WE}{K:t_}(Y:kM_)(k:f2 ρ M λc M1=>[b,c].length=2/\g [b,c] M1 K E):Fj 2 g E (Aa gE! (Aa f2 Ac)) ρ M K:=by unfold Fj Aa Ac;rw[bM Y];exact k
def b0s{ms:c!}{R:t_}(nd:t.nd)(hA:ab_)(hS:Cv S)(hw:CN!)(hm:c9!)(hl:CN_)
  (hR:∀dn,Ll S yy dS_ []=some dn->Ur S dn=true->∀M',a6!->R .non M')
  (h2:Ll S yy dS_ []=none->∀M',a6!->E t.Unlike M')
  (h3:∀dn,Ll S yy dS_ []=some dn->Ur S dn=false->∀M',a6!->E t.NoTime M'):Cw t pW_ M R E:=by
 refine p!;have h:=a8i (t:=t) (x0:=B_) (xs:=ms.map Op.v) nd (λd hd=>by obtain⟨o,ho,rfl⟩:=HI.mp hd;exact .inl C7_) CF_;rw[HB λ⟨d,hd,hb⟩=>by obtain⟨o,ho,rfl⟩:=HI.mp hd;exact mS p3! hb]at h;refine fE (dU h) (iY ?_);refine c1p (b:=B_) rfl (tW (b:=B_) (c:=hf!) rfl rfl (a4m hA hS hw hm hl (λM1 p dn ep e hd l0 hp fr=>?_) λM' e fr=>h2 e M' fr));have tr:∀{M':Mh},(∀b,M1 b≠none->M' b=M1 b)->∀b,M b≠none->M' b=M b:=λgj b hb=>(gj b C8_).trans he_;exact⟨rfl,tV (hA.keep fr) hd l0 hp (λe2 M' gj=>hR dn e e2 M' (tr gj)) λe2 M' gj=>h3 dn e e2 M' (tr gj)⟩
end
section
variable{t:Bl}{M M0:Mh}{ρ:Ab}{yy:Int}{a ta wa p q:yz!}{U:List Op}{E:EK}{o:Op}{s:Wa}
def a7r{W:c!}{wa:yz!}{M:Mh}(hw:M wa=some kN!)(hW:C9!)(ho:bz_):Kz false M o.v fc_=some (.bl (decide (o∈W))):=by
 show"!d"
 have e:Kz false M o.v fc_=Kz.inS false M o.v fc_:=by simp only[Kz,hw]
 show"#)";rw[PZ,PZ,A!,L_];congr 2;by_cases c:o∈W
 .rw[HF c];exact List.any_eq_true.mpr Da!
 .rw[HB c];refine RG.mpr λd hd z=>?_;show"!m"
def Hd.opW(hU:Uw U)(h:dQ_):∀x∈s.W,OpF x:=λx hx=>hU.op x Cm!
def a8z{R:j!}(hU:Uw U)(h:dQ_)(nn:Nnx s.S s.W)(ho:c6_)(hR:∀s',Hd t yy a ta wa U s'->Rc U s.S s.W o s'.S s'.W->Mv s.M pE_ s'.M kC_->R (.rt pM!) s'.M):Pi t fm! s.M R:=by
 have hl:=h.g.ln hU;show Ad uM! _ fm! s.M _;have hx:=jB (iV (ρ:=fm!) g5_ pE! (tJ (o:=o) h.hA));by_cases c:o.n=Da_+1
 .rw[JC.mpr c]at hx;have hw:o∉s.W:=λz=>nn o z c;unfold Ad;refine eM hx ?_;refine iY (wM rfl rfl (pO h.hA a! λM' bu bv jh mv=>?_));show Bg uL_ fm! M' _;unfold Bg w2;rw[bM (f:=fC aJ_) (d:=.int 1) rfl];refine c2r (a:=B_) rfl (oH (s:=⟨M',s.W,s.S++[o],bu,bv⟩) hU ⟨jh,h.g.take hU ho c hw⟩ λs' h' k9 tf=>?_);have e:Gk s'.M aJ_ (.int Db!)=some pM!:=by
   show some (D.int (1+Db!))=_;rw[HN,JK,show(1:Int)+(kE! - ((s.S.length+1:Nat)))=kE! - kE_ by omega]
  show"#=";rw[e];exact hR s' h' ⟨h'.g,k9,λ_=>tf.ex,Db_⟩ (mv.trans tf.mv)
 .have c':o.n≠nh s.S o.h+1:=c;rw[IQ.mpr c]at hx;refine fE hx ?_;have ht:=jB (iV (ρ:=fm!) g5_ pE! (mG (o:=o) h.hA));have stay:∀y,Dc!->Bg bp! [q_,H!,y] s.M R:=λy hm=>dG cs! (by
   have:=hR s h ⟨h.g,nn,Dc_,λ_=>⟨rfl,by rw[HA hm]⟩⟩ .refl;rw[NB]at this;exact this)
  have VW:Dc!->Ad uP! mM! [q_,H!,some u_] s.M R:=λhm=>by
   refine fE p4! (stay _ hm);unfold Gh;refine dU (b:=false) rfl _ ?_;rw[L_];exact hK
  by_cases d:o.n<=Da_
  .rw[HF d]at ht;refine eL (d:=d1_) p4! (VW λz=>by have:=z.1;unfold nh at this;omega);unfold Ms;refine ht _ ?_;rw[A!];exact hK
  .rw[HB d]at ht;have d':nh s.S o.h<o.n:=by unfold nh;omega
   have iw:=a7r h.hA.wt (h.opW hU) B8!;have hs:Pu uM_ fm! s.M (.bl (decide (o∈s.W))):=λK hK=>by
    unfold Ms;refine ht _ ?_;rw[L_];exact eK (aV (d:=o.v) rfl) Dd! iw _ hK
   refine eL hs ?_;by_cases z:o∈s.W
   .rw[HF z];exact VW λy=>y.2.1 z
   .rw[HB z];have RZ:Gi s.M [.fn wa]=some (.int (fi!:Nat)):=by
     show((Jh s.M fc_).map λxs=>D.int g!)=_;simp only[Jh,h.hA.wt,LF,GY]
    have cond:Pe uO_ p4_ s.M p5!:=λK hK=>by
     unfold Gh;refine dU (b:=true) rfl _ ?_;rw[A!];exact jB (eK (lJ Dd! RZ) (aV (d:=.int 8) rfl) (d:=.bl p5!) rfl) K hK
    show Ad (At _ _ _) _ p4_ s.M _;by_cases w8:fi!<8
    .rw[HF a!]at cond;unfold Ad;refine eM cond ?_;obtain⟨j0,va⟩:=h.hA.setW (W':=s.W++[o]);refine qM (q:=Bg bp!) (dZ aP_ h.hA.ob hF3 _ (iZ (v:=o.v) h.hA.wt rfl bX_ ?_));rw[show s.W.map Op.v++bW!=(kQ!).map Op.v by rw[HZ];rfl];refine dG cs! ?_;have k9:Nnx s.S kQ!:=λx hx=>by
      obtain y|y:=GS.mp hx
      .exact nn x y
      .rw[GZ.mp y];exact c'
     have g':=h.g.wait ho d' z w8;have:=hR ⟨mup s.M wa (.lst ((kQ!).map Op.v)),s.W++[o],s.S,s.kl,s.ca⟩ ⟨j0,g'⟩ ⟨g',k9,Dc_,λ_=>⟨rfl,by rw[HC ⟨d',z,w8⟩]⟩⟩ va;rw[NB]at this;show"#-"
    .rw[HB a!]at cond;exact fE cond (stay _ λy=>w8 y.2.2)
def CV(t:Bl):WS:=Lc 2 uQ_
def b7l(hU:Uw U):∀(os:c!) (x1:D) (k:Int) (y:R!) (s:Wa) (R:j!),Hd t yy a ta wa U s->Nnx s.S s.W->pz!->
  (∀s' y',Hd t yy a ta wa U s'->Nnx s'.S s'.W->Rcs U os s.S s.W s'.S s'.W->Mv s.M pE_ s'.M kC_->R (.nx [q_,ag_,Cq_,y']) s'.M)->
  El am_ W! (CV t) F! [q_,ag_,c7_,y] s.M R:=by
 intro os
 induction os with
 |nil=>
  intro x1 k y s R h nn _ hR;have:=hR s y h nn .nil .refl;show"!z"
 |cons o os ih=>
  intro x1 k y s R h nn hm hR;refine aE!;show Ap 2 (Kd t) mN_ [q_,ag_,c7_,H!] s.M _;refine wM rfl rfl ⟨rfl,a8z hU h nn hk_ λs1 Y rc va=>?_⟩;refine ih x1 (k+((s1.S.length:Nat) - (pG_:Nat))) al! s1 R Y rc.n kS_ λs2 y2 h2 nn2 rs N'=>?_;have:=hR s2 y2 h2 nn2 p9! (va.trans N');rw[show k+(pL_ - kE_)+(p9_ - pL_)=k+(p9_ - kE_:Int)by omega];show"#-"
end
section
variable{t:Bl}{M M0:Mh}{ρ:Ab}{yy:Int}{a ta wa p q:yz!}{S W U ms:List Op}{kl:List Int}{ca:Int->Addr}{E:EK}{o:Op}{s:Wa}
def tO{f:WE}{q:WS}{R:j!}(h:yx_):Ad (Bb f) q ρ M R:=h
def b1m{xs:b!}{R:t_}(nd:t.nd)(hH:kL!)(hl:g!<64)(hb:p1!)(hE:C6_):Kb t p1_ M R E:=by refine p!;exact tO (tW (b:=B_) (c:=dF_) rfl rfl (b0t nd hH hl hb hE))
structure GJ(t:Bl)(M:Mh)(yy:Int)(a ta wa:yz!)(S W ms:c!)(kl:v_)(ca:g2_)(R:t_)(E:EK):Prop where
 un:Ll S yy b0! []=none->∀M',a6!->E t.Unlike M'
 tm:∀dn,Ll S yy b0! []=some dn->Ur S dn=false->∀M',a6!->E t.NoTime M'
 ok:∀dn,Ll S yy b0! []=some dn->Ur S dn=true->∃U,Uw U/\Gd U S W/\Nnx S W/\qa_/\∀s':Wa,Hd t yy a ta wa U s'->Nnx s'.S s'.W->Rcs U ms S W s'.S s'.W->Mv M ky_ s'.M kC_->R (.int qa!) s'.M
def rR{R:t_}(nd:t.nd)(hA:Ba t M yy a ta wa W .non S kl ca)(hS:Cv S)(hw:∀o∈W,OpF o)(hm:c9!)(hl:aF!+pW!<64)(k:GJ t M yy a ta wa S W ms kl ca R E):Kb t pW_ M R E:=by refine p!;show Ad uQ! (Ad iD_ (Ad qc! bJ!)) [q_,some pX!,none,none] M _;refine tO (tW (b:=B_) (c:=hf!) rfl rfl (b0s nd hA hS hw hm hl (λdn e1 e2 M1 fr=>?_) k.un k.tm));obtain⟨U,hU,g,nn,qi,hR⟩:=k.ok dn e1 e2;refine eL cs! ?_;show Ad qc! bJ! qe! M1 _;have hi:Ct C! qe!=some bZ!:=jI rfl;unfold Ad Bs Hc;rw[hi];refine b7l hU ms _ 0 none ⟨M1,W,S,kl,ca⟩ _ ⟨hA.keep fr,g⟩ nn qi λs' y' h' k9 rs mv=>?_;exact dG (aV (d:=.int qa!) pM_) (hR s' h' k9 rs ((Mv.of fr).trans mv))
def Wo(t:Bl)(R:t_):EK:=λc M1=>Du (Wf gb_ c) λd=>R d M1
def a5x{R:t_}(h:Kb t [B_,x] M R (Wo t R)):Om t [B_,x] M R:=by refine p!;refine eL cs! ?_;show Fj 2 (Kb t) _ cI_ [q_,some x,some N_,none] M _;refine tW (b:=B_) (c:=x) rfl rfl ?_;exact h
end
section
variable{t:Bl}{M M0:Mh}{ρ:Ab}{la lw:yz!}{T W U:List Op}{o:Op}
def a5p{i:Nat}{ix:l!}{k:Int}{ft:aZ!}(h0:qg!)(hc:Uh 1 ix ρ=[none,cp!])(hM:kW!)(hl:a9!<200)(hb:∀o∈T,ft [H!,cp!]=some (o.h==k)):
  Pu (Cd 1 ix (Ci lK!) G! (Dg ft) i!) ρ M (.lst ((b0_).map Op.v)):=λK hK=>by
 unfold Cd Ci;rw[bM h0];show qh!;rw[hM];refine kB!;rw[hc];refine dS qh_ id hM _ _ fr_ ?_
 .show"!H";exact⟨[H!,cp!],rfl,λK hK=>dU (hb o ho) K hK,kC!⟩
 .rw[PY,QI];have e:(T.filter (qh_∘Op.v))=hs T k:=by
   unfold hs;refine KS λx _=>?_;show(x.h==k)=decide (x.h=k);rw[JH,JC,HS]
  rw[e];exact hK
def a4z{f:WE}{xs:b!}(h:Pu f ρ M A_):Pu (w1 Gi (Aa f Ac)) ρ M (.int (g!:Nat)):=lJ h rfl
structure LT(M:Mh)(la lw:yz!)(T W:c!):Prop where
 t:M la=some kV_
 w:M lw=some kN!
 ne:la≠lw
def Je(M M':Mh)(la lw:yz!):Prop:=∀b,b≠la->b≠lw->M' b=M b
def Je.refl:Je M M la lw:=λ_ _ _=>rfl
def Je.trans{M1 M2:Mh}(h:Je M M1 la lw)(g:Je M1 M2 la lw):Je M M2 la lw:=λb Y h2=>(g b Y h2).trans (h b Y h2)
def CC:WS:=(At nl_ (Ad vE_
 (Ad nm!
 nm_)) Bm)
def a7s{o x:Op}:fT vD_ [H!,gX_]=some (o.h==x.h):=by
 have:f2 eqD' aX! ix! [H!,gX_]=some (.bl (o.h==x.h)):=by
  show(fs!).bind (λa=>(sm_).bind λb=>eqD' a b)=_;rw[gY,gY];exact dN _ _
 unfold fT;rw[this];rfl
def c1l(h:dW!)(hl:a9!<200):Pe nl_ ql_ M (o.n==1+nh T o.h):=by have c:=a4z (a5p (i:=0) (ix:=[4]) (d:=o.v) (k:=o.h) (ρ:=ql_) rfl rfl h.t hl λx _=>a7s);rw[GY]at c;exact jB (eK ks_ (eK kt! c (d:=.int (1+nh T o.h)) rfl) fd!)
def b7o{k:Int}{R:j!}(hU:Uw U)(h:dW!)(g:hn_)(ho:o∈W)
  (hY:o.n=nh T o.h+1->∀M' j,LT M' la lw cv_ c7!->W[j]?=some o->Je M M' la lw->R (.nx [aR_,bB!,pH_,y3,H!]) M')
  (hN:o.n≠nh T o.h+1->R (.nx ho!) M):CC ho! M R:=by
 have hl:=g.ln hU;have hc:=c1l (k:=c7_) (y3:=y3) (o:=o) h a!;have hW:∀x∈W,OpF x:=λx hx=>hU.op x g7!;by_cases c:o.n=nh T o.h+1
 .rw[JC.mpr a!]at hc;refine eM hc ?_;obtain⟨j,e1,e2⟩:∃j,(W.map Op.v).findIdx? (λx=>eqD x o.v)=some j/\W[j]?=some o:=by
   cases e:(hj!).findIdx? pG! with
   |none=>
    have:=PH.mp e o.v (HH ho);rw[lW hp! hp!,cY!]at this;cases this
   |some j=>
    show"#<";rw[lW (hW _ (IZ hl)) hp!]at Y;exact⟨j,rfl,by rw[HU hl,JF Y]⟩
  have ee:(hj!).eraseIdx j=(c7!).map Op.v:=by rw[KU,KU,HZ,List.map_take,List.map_drop]
  show"!d"
  refine tO ?_;unfold Nj;rw[bM (f:=dP!) (d:=bj_) rfl,gA h.w];refine dF ?_;rw[bM (f:=fVar 4) (d:=o.v) rfl,gA h.w];refine dF ⟨(gC (hp!).dg).1,n1,n2,?_⟩;show Du ((hj!).findIdx? λx=>eqD x o.v) _;rw[e1];refine dF ?_;show Ad nm! nm_ ho! (mup M lw (.lst ((hj!).eraseIdx j))) _;rw[ee];have ht:mup M lw (.lst ((c7!).map Op.v)) la=some kV_:=(qr_).trans h.t;refine qM ?_;rw[bM (f:=fVar 0) (d:=bB_) rfl];refine iZ (v:=o.v) ht rfl bX_ ?_;rw[qq!];unfold Ai;rw[bM (f:=f2 Ag K! s_) (d:=.int S_) rfl];exact hY c _ j ⟨mup_same,(qs!).trans mup_same,h.ne⟩ e2 λb Y h2=>(mup_ne Y).trans (mup_ne h2)
 .rw[IQ.mpr a!]at hc;exact iO hc (hN c)
structure Ps(U T W os T' W':c!):Prop where
 g:Gd U T' W'
 e:Ex T W T' W'
 st:(∀x∈os,x.n≠nh T x.h+1)->T'=T/\W'=W
 go:(∃x∈os,x.n=nh T x.h+1)->a9!<fu!
def b7q(hU:Uw U):∀(os T W:c!) (k:Int) (y4:R!) (M:Mh) (R:j!),LT M la lw T W->Gd U T W->os.Nodup->(∀x∈os,x∈W)->
  (∀T' W' M' fw,LT M' la lw T' W'->Ps U T W os T' W'->Je M M' la lw->R qs_ M')->
  El ad! W! CC F! k0! M R:=by
 intro os
 induction os with
 |nil=>
  intro T W k y4 M R h g _ _ hR;have:=hR T W M y4 h ⟨g,.refl g.wn,λ_=>aI_,λ⟨x,hx,_⟩=>by cases hx⟩ .refl;show"!z"
 |cons o os ih=>
  intro T W k y4 M R h g nd hm hR;rw[HR]at nd;refine aE!;show CC ho! M _;refine b7o hU h g hk_ (λc M1 j Y hj o1=>?_) λc=>?_
  .obtain⟨g1,e1⟩:=g.takeW hU hj c;refine ih cv_ c7! S_ al! M1 R Y g1 nd.2 (λx hx=>?_) λT' W' M' fw h' p' o'=>?_
   .have:x∈W:=hm x aP!;rw[e1.w];refine JG.mpr ⟨this,HF ?_⟩;have Y:=g.wn x this;rw[xR];split
    .rename_i q;have:x.n≠o.n:=λz=>nd.1 (hU.uniq x (g.sub x (.inr this)) o (g.sub o (.inr hk_)) q.symm z▸hx);rw[q]at c;omega
    .exact Y
   .have len:=p'.e.len;have len1:=e1.len;have:=hR T' W' M' fw h' ⟨p'.g,e1.trans p'.e,λz=>absurd c (z o GR),λ_=>?_⟩ k2!
    .rw[show k+1+(fv! - qt!)=k+qt_ by rw[HN,JK];omega];show"#-"
    .have:(cv_).length<=fu!:=by
      have a:W'.length<=(c7!).length:=by rw[p'.e.w];exact NA _ _
      omega
     rw[HN,JK]at this;omega
  .refine ih T W k al! M R h g nd.2 kS_ λT' W' M' fw h' p' o'=>?_;refine hR T' W' M' fw h' ⟨p'.g,p'.e,λz=>p'.st λx hx=>z x aP!,λ⟨x,hx,hn⟩=>?_⟩ o';obtain z|z:=GT.mp hx
   .exact absurd (z▸hn) c
   .exact p'.go ⟨x,z,hn⟩
def AI:WS:=Bs vD! ad! CC
def b7r{k:Int}{R:j!}(hU:Uw U)(h:dW!)(g:hn_)
  (hR:∀T' W' M' fw,LT M' la lw T' W'->Ps U T W W T' W'->Je M M' la lw->R qs_ M'):
  AI k0! M R:=by
 have hl:=g.ln hU;have hv:Ro M [bj_]=some kN!:=by
  show((Jh M cu_).bind λxs=>if g!<=big then some (D.lst xs)else none)=_;simp only[Jh,h.w,KC];rw[HC bX_]
 unfold AI Bs Ci;refine lJ (aV (f:=dP!) (d:=bj_) rfl) hv _ ?_;exact b7q hU W T W k y4 M R h g g.nd (λx hx=>hx) hR
def b7s(hU:Uw U):∀(ds:b!) (T W:c!) (k:Int) (y3 y4:R!) (M:Mh) (R:j!),LT M la lw T W->Gd U T W->(Nnx T W\/aF!<e_)->
  (∀T' W' M' qh fw,LT M' la lw T' W'->Gd U T' W'->Ex T W T' W'->Nnx T' W'->Je M M' la lw->R (.nx [aR_,bB!,some fu_,qh,fw]) M')->
  El am_ W! AI ds k0! M R:=by
 intro ds
 induction ds with
 |nil=>
  intro T W k y3 y4 M R h g hn hR;have:=hR T W M y3 y4 h g (.refl g.wn) (hn.elim id λz=>absurd z (Nat.not_lt_zero _)) .refl;show"!z"
 |cons d ds ih=>
  intro T W k y3 y4 M R h g hn hR;refine aE!;show AI [aR_,bB!,c7_,cp!,y4] M _;refine b7r hU h g λT1 W1 M1 y41 Y p1 o1=>?_;refine ih T1 W1 _ be_ y41 M1 R Y p1.g ?_ λT' W' M' qh fw h' g' e' n' o'=>?_
  .by_cases c:Nnx T W
   .obtain⟨e1,e2⟩:=p1.st c;rw[e1,e2];exact .inl c
   .right;have lt:aF!<(cO_).length:=hn.elim (λz=>absurd z c) id;have:a9!<T1.length:=p1.go (IJ λz=>c λx hx q=>z ⟨x,hx,q⟩);have l:=p1.e.len;rw[HJ]at lt;omega
  .have:=hR T' W' M' qh fw h' g' (p1.e.trans e') n' k2!;rw[qx!];show"#-"
def a8v{R:t_}(hU:Uw U)(h:dW!)(g:hn_)(hR:∀T' W' M',LT M' la lw T' W'->Gd U T' W'->Ex T W T' W'->Nnx T' W'->Je M M' la lw->R (.int hr!) M'):Ke [bB_,bj_] M R:=by
 refine p!;refine eL cs! ?_;show Ad (Bs vC_ am_ AI) bJ! qz! M _;have hi:iRng (fC ex_) qz!=some k4_:=by simp[iRng,fC]
 unfold Ad Bs Hc;rw[hi];refine b7s hU k4_ T W 0 none none M _ h g (.inr (by have:=g.w8;have:(k4_).length=9:=rfl;omega)) λT' W' M' y3 y4 h' g' e' n' o'=>?_;exact dG qz_ (hR T' W' M' h' g' e' n' o')
end
section
variable{t:Bl}{M M0:Mh}{ρ:Ab}{yy:Int}{la lw p:yz!}{T W U kn:List Op}{o:Op}
abbrev ev(yy:Int)(la lw:yz!)(xs:b!)(x4 x5 x6 x7 x8 x9 x10 x11:R!):Ab:=[bk!,aR_,bB!,c9_,x4,x5,x6,x7,x8,x9,x10,x11]
def CI:WS:=vU!
def c1i(h:Wi d):He (fT no_) (fT np!) qA!=some (decide (Ot d)):=by
 obtain⟨o,ho,rfl⟩|h:=h
 .rw[HB (mS ho)];have Y:fT no_ k6!=some false:=rfl;have h2:fT np! k6!=some false:=by
   have:f2 ltD cc_ s_ k6!=some X!:=by
    show(hu_).bind (λa=>ltD a aJ_)=_;rw[iR];show some (D.bl (decide (o.n<1)))=_;rw[HB (by have:=ho.n1;omega)]
   unfold fT;rw[this];rfl
  unfold He;rw[Y];exact h2
 .rw[HF h];obtain rfl|⟨k,tm,dd,rfl,_,_⟩:=h
  .rfl
  .rfl
def a7z:∀(ys:b!) {xs:b!} {x4 x5 x6 x7 x8 x9 x10 x11:R!} {R:j!},(∀d∈ys,Wi d)->((∃d∈ys,Ot d)->R (.rt ku!) M)->((¬∃d∈ys,Ot d)->∀el,R (.nx (ev yy la lw xs el x5 x6 x7 x8 x9 x10 x11)) M)->
  El ad! W! CI ys qB_ M R:=by
 intro ys
 induction ys with
 |nil=>intro xs x4 x5 x6 x7 x8 x9 x10 x11 R _ _ h;exact⟨trivial,h (λ⟨d,hd,_⟩=>by cases hd) _⟩
 |cons d ys ih=>
  intro xs x4 x5 x6 x7 x8 x9 x10 x11 R hT Y h2;refine aE!;show CI qA! M _;have ht:=c1i (yy:=yy) (la:=la) (lw:=lw) (xs:=xs) (x5:=x5) (x6:=x6) (x7:=x7) (x8:=x8) (x9:=x9) (x10:=x10) (x11:=x11) (hT d GR);by_cases c:Ot d
  .rw[HF c]at ht;exact eM (dU ht) (dG BY_ (Y ⟨d,GR,c⟩))
  .rw[HB c]at ht;refine iO (dU ht) ?_;exact ih (λx hx=>hT x aP!) (λ⟨x,hx,hb⟩=>Y C6!) λn el=>h2 (λ⟨x,hx,hb⟩=>(p0_).elim (λz=>c dV_) λz=>n ⟨x,z,hb⟩) el
def Nd:List Op->Op->List Op
 |[],o=>[o]
 |x::r,o=>if x.h=o.h/\x.n=o.n then o::r else x::Nd r o
nonrec def kvO(kn:c!):List ao_:=kn.map λo=>hc!
def a7i:∀(kn:c!) (o:Op),Bq hw_ o.nm o.v=kvO aG_
 |[],o=>rfl
 |x::r,o=>by
  show Bq ((x.nm,x.v)::kvO r) o.nm o.v=_;unfold Nd Bq;by_cases c:x.h=o.h/\x.n=o.n
  .rw[HC (iX.mpr c),HC c,iX.mpr c];rfl
  .rw[HA λz=>c (iX.mp z),HA c,a7i r o];rfl
def yJ:∀(kn:c!) (o:Op),(aG_).length<=hx_+1
 |[],o=>HK _
 |x::r,o=>by
  unfold Nd;split
  .exact JW _
  .have:=yJ r o;simp only[HJ];omega
def yH:∀{kn:c!},qC!->Nd kn o=kn++[o]
 |[],_=>rfl
 |x::r,h=>by
  unfold Nd;rw[HA (h x GR),yH λy hy=>h y cL!];rfl
def a7k:∀{kn:c!},o∈kn->(∀x∈kn,x.h=o.h->x.n=o.n->x=o)->Nd kn o=kn
 |x::r,h,u=>by
  unfold Nd;by_cases c:x.h=o.h/\x.n=o.n
  .rw[HC c,u x GR c.1 c.2]
  .rw[HA c];obtain z|z:=GT.mp h
   .exact absurd ⟨by rw[z],by rw[z]⟩ c
   .rw[a7k z λy hy=>u y cL!]
def Zr:WS:=iU!
nonrec def knF:List Op->List Op->List Op
 |[],kn=>kn
 |o::os,kn=>knF os aG_
def b2g{ep:Nat}{R:j!}(hp:fw!)(hl:hx_<500)(k:∀bc,R (.nx hy_) (mup M p (.dct (kvO aG_) bc))):Zr hy_ M R:=by have es:Dj az_ Al bn! hy_=some o.nm:=a0g o;refine c1y (p:=p) (y:=o.nm) (v:=o.v) (k:=he!) rfl es rfl hp rfl (by unfold kvO;rw[GY];unfold big;omega) ?_;rw[a7i];exact k _
def c1h{ck:dL!}:∀(os kn:c!) (ep:Nat) (x4:R!) (M:Mh) (R:j!),hx_+V_<500->M p=some hy!->(∀M',gS_->ck M')->
  (∀M' el bc,M' p=some qG!->gS_->R (.nx (ev yy la lw xs el ap_ x6 x7 x8 x9 x10 x11)) M')->
  El ad! ck Zr F! qG_ M R:=by
 intro os
 induction os with
 |nil=>intro kn ep x4 M R _ hp c9 hR;exact⟨qH!,qH_⟩
 |cons o os ih=>
  intro kn ep x4 M R hl hp c9 hR;rw[HJ]at hl;refine⟨qH!,?_⟩;show Zr hy_ M _;refine b2g hp a! λbc=>?_;refine ih aG_ bc al! _ R (by have:=yJ kn o;omega) mup_same (λM' h=>c9 M' λb hb=>(h b hb).trans j9!) λM' el SA Y h2=>hR M' el SA Y λb hb=>(oR!).trans j9!
def Sz(yy hd:Int)(kn:c!)(o:Op):Bool:=(match kn.find? dR_ with|some x=>decide kw_|none=>false)||decide hA!
def Ov(yy hd:Int):List Op->List Op->Bool->Bool
 |[],_,b=>b
 |o::os,kn,b=>Ov yy hd os aG_ (b||Sz yy hd kn o)
def FL:WS:=(Ad (Ai 6 nq_)
 iU!)
def b9e{x y:Op}(hx:OpF x)(hy:OpF y):Vn M x.v y.v=some Cs!:=by unfold Vn;rw[show Uc M x.v=x.v from rfl,show Uc M y.v=y.v from rfl];exact b3u hx hy
def c6y{b:Bool}{hd:b!}{ep:Nat}(hp:fw!)(hk:∀x∈kn,OpF x)(ho:bz_):
  Pu nq_ qI_ M qJ!:=λK hK=>by
 have es:Dj az_ Al bn! qI_=some o.nm:=a0g o;unfold Ms;refine jB (aV (f:=fVar 6) (d:=.bl b) rfl) _ ?_;cases b with
 |true=>rw[A!];exact hK
 |false=>
  rw[L_];rw[RA]at hK;obtain⟨x,hx,ex,en⟩:∃x:Op,OpF x/\((kget (kvO kn) o.nm).getD o.v=x.v)/\(decide (x≠o)=match kn.find? (sameN o)with|some x=>decide (x≠o)|none=>false):=by
   show∃x:Op,OpF x/\((kget (kn.map λo=>hc!) o.nm).getD o.v=x.v)/\_;rw[lF];cases f:kn.find? dR_ with
   |some x=>exact⟨x,hk x (LA f),rfl,rfl⟩
   |none=>exact⟨o,ho,rfl,HB λz=>z rfl⟩
  have Y:=jB (eK (g:=Vn) (jX lc! (aV es) lc_ hp (k:=he!) rfl ex) lc_ (b9e hx ho));refine Y _ ?_;unfold Sz at hK;rw[<-en]at hK;by_cases c:x=o
  .rw[qK_]at hK ⊢;rw[L_];rw[RA]at hK;have e2:Bi vW_ vX! ld_=some (.bl (decide (o.h=yy/\(fx!:Int)<o.n))):=by
    have a1:f2 eqD' iB! k! ld_=some (.bl c8_):=by
     show(fs!).bind qL_=_;rw[gY];exact dN _ _
    have a2:f2 Hq cc_ (f1 Bp iL_) ld_=some (.bl (decide ((fx!:Int)<o.n))):=by
     show(hu_).bind (λa=>Hq a (.int fx!))=_;rw[iR];rfl
    by_cases d:o.h=yy
    .rw[JC.mpr d]at a1;simp only[Bi,fT,a1,a2,KC,Pn,JN];congr 2;rw[JH,HS,HS];exact⟨λz=>⟨d,z⟩,λz=>z.2⟩
    .rw[IQ.mpr d]at a1;simp only[Bi,fT,a1,KC,Pn];rw[HB λz=>d z.1];rfl
   rw[bM e2];exact hK
  .rw[HF c]at hK ⊢;rw[A!];rw[Bool.true_or]at hK;exact hK
def yI:∀{kn:c!} {x:Op},x∈Nd kn o->x∈kn\/x=o
 |[],x,h=>.inr (GZ.mp h)
 |y::r,x,h=>by
  unfold Nd at h;split at h
  .obtain z|z:=GT.mp h
   .exact .inr z
   .exact .inl eP_
  .obtain z|z:=GT.mp h
   .exact .inl (z▸GR)
   .exact(yI z).imp (GO _) id
def c1g{hd:b!}:∀(os kn:c!) (b:Bool) (ep:Nat) (x4:R!) (M:Mh) (R:j!),hx_+V_<500->(∀x∈kn,OpF x)->(∀x∈os,OpF x)->M p=some hy!->
  (∀M' el bc,M' p=some qG!->gS_->R (.nx (ev yy la lw xs el ap_ (some (.bl (Ov yy fx! os kn b))) fw_ x8 x9 x10 x11)) M')->
  El ad! W! FL F! (ev yy la lw xs x4 ap_ (some aI!) fw_ x8 x9 x10 x11) M R:=by
 intro os
 induction os with
 |nil=>intro kn b ep x4 M R _ _ _ hp hR;exact⟨trivial,qH_⟩
 |cons o os ih=>
  intro kn b ep x4 M R hl hk ho hp hR;rw[HJ]at hl;refine aE!;have o1:=ho o GR;refine eL (q:=Zr) (c6y (yy:=yy) (la:=la) (lw:=lw) (xs:=xs) (b:=b) (hd:=hd) (x8:=x8) (x9:=x9) (x10:=x10) (x11:=x11) hp hk o1) ?_;show Zr (ev yy la lw xs al! ap_ (some qJ!) fw_ x8 x9 x10 x11) M _;refine b2g hp a! λbc=>?_;exact ih aG_ _ bc al! _ R (by have:=yJ kn o;omega) (λx hx=>(yI hx).elim (hk x) λz=>z▸o1) qP! mup_same λM' el SA Y h2=>hR M' el SA Y λc hc=>(h2 c hc).trans (mup_ne hc)
def Uq(x y:Op):Prop:=x.h=y.h/\x.n<y.n/\y.tm<=x.tm
def Zq:WS:=v4!
def xD{f g:WT}{b c:Bool}(h:Pe f ρ M b)(h2:b=true->Pe g ρ M c):Pe (Gh f g) ρ M (b&&c):=λK hK=>by
 unfold Gh;refine h _ ?_;cases b with
 |true=>rw[A!];rw[PZ]at hK;exact h2 rfl K hK
 |false=>rw[L_];exact hK
def iF{f:i_}{b:Bool}(h:f ρ=some aI!):fT f ρ=some b:=by unfold fT;rw[h];rfl
def c2v{x y:Op}{ep:Nat}(hp:fw!)(nd:na_)(hx:x∈kn)(hy:y∈kn):
  Pe v2_ hC_ M (decide (Uq x y)):=by
 have a1:f2 eqD' vX_ vY! hC_=some (.bl (x.h==y.h)):=by
  show(ixD x.nm N_).bind (λa=>(ixD y.nm N_).bind λb=>eqD' a b)=_;rw[sP,sP];exact dN _ _
 have a2:f2 ltD vY_ vZ! hC_=some (.bl (decide (x.n<y.n))):=by
  show(ixD x.nm aJ_).bind (λa=>(ixD y.nm aJ_).bind λb=>ltD a b)=_;rw[a4n,a4n];rfl
 have i1:∀{z:Op},z∈kn->Do M z_ z.nm=some z.v:=λ{z} hz=>(nQ (k:=some (.inr [.inl z.h,.inl z.n])) hp rfl).trans (nN nd hz);have i2:∀{z:Op},Do M z.v cD_=some (.int z.tm):=λ{z}=>a4a z;have a3:=jB (eK (g:=λ_=>Kc) (eK (eK (ρ:=ev yy la lw xs x4 ap_ x6 x7 e7_ x9 nd! x11) lc! (aV (f:=fVar 8) (d:=x.nm) rfl) (i1 hx)) qX! i2) (eK (eK lc! (aV (f:=fVar 10) (d:=y.nm) rfl) (i1 hy)) qX! i2) (d:=.bl (decide qY_)) rfl);have r:=xD (dU (M:=M) (iF a1)) λ_=>xD (dU (M:=M) (iF a2)) λ_=>a3;have e:((x.h==y.h)&&(decide (x.n<y.n)&&decide qY_))=decide (Uq x y):=by
  rw[JH,HQ,HQ,JC,HS,HS,HS];rfl
 rw[<-e];exact r
def c8x{x:Op}{ep:Nat}(hp:fw!)(nd:na_)(hx:x∈kn):∀(ys:c!) (x10:R!) (R:j!),(∀y∈ys,y∈kn)->((∃y∈ys,Uq x y)->R (.rt hE_) M)->
  ((¬∃y∈ys,Uq x y)->∀ez,R (.nx (ev yy la lw xs x4 ap_ x6 x7 e7_ x9 ez x11)) M)->
  El ge! ll_ Zq (ys.map Op.nm) q0_ M R:=by
 intro ys
 induction ys with
 |nil=>intro x10 R _ _ h;exact⟨hp,h q1! _⟩
 |cons y ys ih=>
  intro x10 R hm Y h2;refine⟨hp,?_⟩;show Zq hC_ M _;have hv:=c2v (yy:=yy) (la:=la) (lw:=lw) (xs:=xs) (x4:=x4) (x6:=x6) (x7:=x7) (x9:=x9) (x11:=x11) hp nd hx (hm y GR);by_cases c:Uq x y
  .rw[HF c]at hv;exact eM hv (dG (aV (d:=.int (-3)) rfl) (Y ⟨y,GR,c⟩))
  .rw[HB c]at hv;exact iO hv (ih nd! R q2! q3! λn ez=>h2 (λ⟨z,hz,q⟩=>(GT.mp hz).elim (λe=>c (e▸q)) λe=>n ⟨z,e,q⟩) ez)
end
section
variable{yy hd:Int}{T W U kn ms dn:List Op}{o:Op}
def oN{x:Op}:sameN o x=true↔x.h=o.h/\x.n=o.n:=by unfold sameN;rw[HS]
def vQ(e:Oh T yy o dn=some ms):(o.n<=nh T o.h/\cw_[(ay!).toNat]?=some o/\ms=dn)\/(nh T o.h<o.n/\o.h≠yy/\((o∈dn/\ms=dn)\/ms=dn++[o])):=by
 unfold Oh at e;show"!6"
 .show"#5"
  .rename_i d;cases e;exact .inl ⟨c,d,rfl⟩
  .cases e
 .show"#5"
  .cases e
  .rename_i y;show"!6"
   .rename_i x f;show"!6"
    .rename_i z;cases e;exact .inr ⟨m_,y,.inl ⟨z▸LA f,rfl⟩⟩
    .cases e
   .cases e;exact .inr ⟨m_,y,jc_⟩
def b3o(e:Oh T yy o dn=none):(o.n<=nh T o.h/\cw_[(ay!).toNat]?≠some o)\/(nh T o.h<o.n/\(o.h=yy\/∃x∈dn,x.h=o.h/\x.n=o.n/\x≠o)):=by
 unfold Oh at e;show"!6"
 .show"#5"
  .cases e
  .rename_i d;exact .inl ⟨c,d⟩
 .show"#5"
  .rename_i y;exact .inr ⟨m_,.inl y⟩
  .show"!6"
   .rename_i x f;show"!6"
    .cases e
    .rename_i z;have:=oN.mp q4_;exact .inr ⟨m_,.inr ⟨x,LA f,this.1,this.2,z⟩⟩
   .cases e
def sO:∀{os dn bi:c!},Ll T yy os dn=some bi->(∀o∈os,o.n<=nh T o.h->cw_[(ay!).toNat]?=some o)/\(∀o∈os,nh T o.h<o.n->o.h≠yy/\o∈bi)/\(∀x∈dn,x∈bi)/\∀x∈bi,x∈dn\/(x∈os/\nh T x.h<x.n)
 |[],dn,bi,e=>by cases e;exact⟨bC_,bC_,oL_,br_⟩
 |o::os,dn,bi,e=>by
  obtain⟨d1,e1,e2⟩:=GN.mp q5_;obtain⟨Y,h2,h3,h4⟩:=sO e2;have hc:=vQ e1;have s1:∀x∈dn,x∈d1:=λx hx=>by
   obtain⟨_,_,rfl⟩|⟨_,_,⟨_,rfl⟩|rfl⟩:=hc
   .exact hx
   .exact hx
   .exact jG_
  refine⟨q7!,q7!,λx hx=>h3 x (s1 x hx),G_⟩
  .obtain z|z:=GT.mp hx
   .rw[z]at n ⊢;obtain⟨_,q,_⟩|⟨q,_⟩:=hc
    .exact q
    .omega
   .exact Y x z n
  .obtain z|z:=GT.mp hx
   .rw[z]at n ⊢;obtain⟨q,_⟩|⟨_,y,⟨m,rfl⟩|rfl⟩:=hc
    .omega
    .exact⟨y,h3 o m⟩
    .exact⟨y,h3 o d_⟩
   .exact h2 x z n
  .obtain z|⟨z,n⟩:=h4 x hx
   .obtain⟨_,_,rfl⟩|⟨q,_,⟨_,rfl⟩|rfl⟩:=hc
    .exact dE!
    .exact dE!
    .obtain y|y:=GS.mp z
     .exact .inl y
     .rw[GZ.mp y];exact .inr ⟨GR,q⟩
   .exact .inr ⟨GO _ z,n⟩
def a1e:∀{os dn:c!},Ll T yy os dn=none->(∃o∈os,o.n<=nh T o.h/\cw_[(ay!).toNat]?≠some o)\/(∃o∈os,nh T o.h<o.n/\o.h=yy)\/(∃o∈os,nh T o.h<o.n/\∃x∈dn++os,x.h=o.h/\x.n=o.n/\x≠o)
 |[],dn,e=>by cases e
 |o::os,dn,e=>by
  have e:(q6!).bind wu_=none:=e;cases e1:Oh T yy o dn with
  |none=>
   obtain h|⟨h,z|⟨x,hx,q⟩⟩:=b3o e1
   .exact q8_
   .exact .inr (.inl ⟨o,GR,h,z⟩)
   .exact .inr (.inr ⟨o,GR,h,x,jG_,q⟩)
  |some d1=>
   rw[e1]at e;have hc:=vQ e1;obtain⟨x,hx,h⟩|⟨x,hx,h⟩|⟨x,hx,h,y,hy,q⟩:=a1e (show Ll T yy os d1=none from e)
   .exact .inl lp!
   .exact .inr (.inl lp!)
   .refine .inr (.inr ⟨x,kM!,h,y,?_,q⟩);obtain z|z:=GS.mp hy
    .obtain⟨_,_,rfl⟩|⟨_,_,⟨_,rfl⟩|rfl⟩:=hc
     .exact GU _ z
     .exact GU _ z
     .obtain y'|y':=GS.mp z
      .exact GU _ y'
      .rw[GZ.mp y'];simp
    .exact GV _ eP_
def a4l:∀{os dn bi:c!},Fs T dn->CM_->Ll T yy os dn=some bi->Fs T bi
 |[],dn,bi,h,_,e=>by cases e;exact h
 |o::os,dn,bi,h,ho,e=>by
  obtain⟨d1,e1,e2⟩:=GN.mp q5_;exact a4l (h.step (ho o GR) e1).1 qP! e2
def Uu(kn:c!):Prop:=∀x∈kn,∀y∈kn,x.h=y.h->x.n=y.n->x=y
def a8m(hu:Uu kn)(e:Sz yy hd kn o=false):¬hA!/\((o∈kn/\Nd kn o=kn)\/(qC!/\Nd kn o=kn++[o])):=by
 unfold Sz at e;rw[Bool.or_eq_false_iff]at e;refine⟨of_decide_eq_false e.2,?_⟩;cases f:kn.find? dR_ with
 |some x=>
  rw[f]at e;have e1:decide kw_=false:=e.1;have hx:x=o:=IJ λz=>by rw[HF z]at e1;cases e1
  have m:=LA f;rw[hx]at m;exact .inl ⟨m,a7k m λy hy Y h2=>hu y hy o m Y h2⟩
 |none=>
  have n:∀x∈kn,¬hb_:=λx hx z=>QY.mp f x hx (oN.mpr z);exact .inr ⟨n,yH n⟩
def b1e(e:Sz yy hd kn o=true):hA!\/∃x∈kn,x.h=o.h/\x.n=o.n/\x≠o:=by
 unfold Sz at e;rw[Bool.or_eq_true]at e;obtain e|e:=e
 .cases f:kn.find? dR_ with
  |some x=>
   rw[f]at e;have:=oN.mp q4_;exact .inr ⟨x,LA f,this.1,this.2,JF e⟩
  |none=>rw[f]at e;cases e
 .exact .inl (JF e)
def c1u:∀{os kn:c!},Ov yy hd os kn true=true
 |[],kn=>rfl
 |o::os,kn=>by show Ov yy hd os aG_ (true||Sz yy hd kn o)=true;rw[Bool.true_or];exact c1u
def b1i(hu:Uu kn)(n:∀x∈kn,¬hb_):Uu (kn++[o]):=λx hx y hy Y h2=>by
 obtain a|a:=GS.mp hx<;>obtain b|b:=GS.mp hy
 .exact hu x a y b Y h2
 .rw[GZ.mp b]at Y h2;exact absurd ⟨Y,h2⟩ (n x a)
 .rw[GZ.mp a]at Y h2;exact absurd ⟨Y.symm,h2.symm⟩ (n y b)
 .rw[GZ.mp a,GZ.mp b]
def oI:∀{os kn:c!},Uu kn->(qQ!).Nodup->Ov yy hd os kn false=false->(∀o∈os,¬hA!)/\(∀x,x∈knF os kn↔x∈kn\/x∈os)/\Uu lb_/\((lb_).map Op.nm).Nodup
 |[],kn,hu,nd,_=>⟨bC_,λx=>⟨.inl,λh=>h.elim id λz=>l2!⟩,hu,nd⟩
 |o::os,kn,hu,nd,e=>by
  have e:Ov yy hd os aG_ rg_=false:=e;rw[RA]at e;have eb:Sz yy hd kn o=false:=by
   cases b:Sz yy hd kn o with
   |false=>rfl
   |true=>rw[b,c1u]at e;cases e
  rw[eb]at e;obtain⟨Y,h2⟩:=a8m hu eb;have wc:Uu aG_/\((aG_).map Op.nm).Nodup:=by
   obtain⟨_,q⟩|⟨n,q⟩:=h2
   .rw[q];exact⟨hu,nd⟩
   .rw[q];refine⟨b1i hu n,?_⟩;rw[HZ,IM];refine⟨nd,R_,ri!⟩;rw[HD,LZ,GZ]at hb;obtain⟨x,hx,rfl⟩:=HI.mp ha;exact n x hx (iX.mp (z.trans hb))
  obtain⟨k1,k2,k3,k4⟩:=oI wc.1 wc.2 e;refine⟨λx hx=>(p0_).elim (λz=>z▸Y) (k1 x),nL!,k3,k4⟩;show x∈knF os aG_↔_;rw[k2];obtain⟨m,q⟩|⟨_,q⟩:=h2
  .rw[q,GT];exact⟨λh=>h.imp id .inr,λh=>h.elim .inl λz=>z.elim (λy=>.inl (y▸m)) .inr⟩
  .rw[q,GS,GZ,GT,or_assoc]
def a0b:∀{os kn:c!},Ov yy hd os kn false=true->(∃o∈os,o.h=yy/\hd<o.n)\/∃o∈os,∃x∈kn++os,x.h=o.h/\x.n=o.n/\x≠o
 |[],kn,e=>by cases e
 |o::os,kn,e=>by
  have e:Ov yy hd os aG_ rg_=true:=e;rw[RA]at e;cases eb:Sz yy hd kn o with
  |true=>
   obtain h|⟨x,hx,q⟩:=b1e eb
   .exact q8_
   .exact .inr ⟨o,GR,x,jG_,q⟩
  |false=>
   rw[eb]at e;obtain⟨x,hx,h⟩|⟨x,hx,y,hy,q⟩:=a0b e
   .exact .inl lp!
   .refine .inr ⟨x,kM!,y,?_,q⟩;obtain z|z:=GS.mp hy
    .obtain y'|y':=yI z
     .exact GU _ y'
     .rw[y'];simp
    .exact GV _ eP_
def a8a:∀{qs:c!} {f:cB_},Wh qs f=true↔(∀q∈qs,f q.h<q.tm)/\qs.Pairwise λx y=>x.h=y.h->x.tm<y.tm
 |[],f=>⟨λ_=>⟨λq h=>dK!,iH!⟩,bF!⟩
 |o::qs,f=>by
  rw[KI];by_cases c:o.tm<=f o.h
  .rw[b6v c];refine⟨λz=>l2!,dH_⟩;have:=z.1 o GR;omega
  .rw[b6u c,a8a];show"!|"
   .rintro⟨Y,h2⟩;have k:∀q∈qs,o.h=q.h->o.tm<q.tm:=λq hq e=>by
     have:=Y q hq;rw[HC e.symm]at this;show"#-"
    refine⟨c3!,k,h2⟩;obtain z|z:=GT.mp hq
    .rw[z];omega
    .have:=Y q z;split at this
     .rename_i e;rw[e];omega
     .show"#-"
   .rintro⟨Y,h2,h3⟩;refine⟨c3!,h3⟩;split
    .rename_i e;exact h2 q hq e.symm
    .exact Y q (GO _ hq)
end
def Xm(o:Op):Prop:=B3_/\o.n<=14
structure Jn(T W:c!)(yy:Int):Prop where
 hT:Cv T
 op:∀o∈W,OpF o
 wn:∀o∈W,nh T o.h+1<o.n
 wy:∀o∈W,o.h≠yy
 nd:W.Nodup
 un:Uu W
 tm:∀x∈T++W,∀y∈T++W,x.h=y.h->x.n<y.n->x.tm<y.tm
 sm:∀o∈T++W,Xm o
 w8:aF!<=8
section
variable{yy hd:Int}{T W U kn ms dn:List Op}{o x y:Op}
def Cv.unq(h:Cv T):Uu T:=λx hx y hy e n=>by
 obtain⟨i,Y,h2⟩:=h.ix hx;obtain⟨j,h3,h4⟩:=h.ix hy;have z:i=j:=by omega
 subst z;rw[e,h3]at Y;exact(IW Y).symm
def Cv.at(h:Cv T)(Y:1<=o.n)(h2:o.n<=nh T o.h):∃x∈T,cw_[(ay!).toNat]?=some x/\x.h=o.h/\x.n=o.n:=by
 have ai:(ay!).toNat<(cw_).length:=by unfold nh at h2;omega
 have gs:cw_[(ay!).toNat]?=some cw_[(ay!).toNat]:=HU ai;have mx:=eG.mp (IZ ai);have nx:=(pf!).num _ _ gs;exact⟨_,mx.1,gs,mx.2,m_⟩
def Jn.unq(J:bk_):Uu J!:=λx hx y hy e n=>by
 obtain a|a:=GS.mp hx<;>obtain b|b:=GS.mp hy
 .exact J.hT.unq x a y b e n
 .have Y:=J.hT.le a;have h2:=J.wn y b;rw[e]at Y;omega
 .have Y:=J.hT.le b;have h2:=J.wn x a;rw[e]at h2;omega
 .exact J.un x a y b e n
def Jn.ops(J:bk_):∀o∈T++W,OpF o:=λo ho=>(dT!).elim (J.hT.op o) (J.op o)
def b3r{l:c!}(h:l.Nodup)(u:Uu l):(l.map Op.nm).Nodup:=by rw[NK]at h ⊢;rw[PR];exact(List.Pairwise.and_mem.mp h).imp λ{x y} qj e=>qj.2.2 (u x qj.1 y qj.2.1 (iX.mp e).1 (iX.mp e).2)
def Jn.names(J:bk_):((J!).map Op.nm).Nodup:=by rw[HZ,IM];refine⟨J.hT.names,b3r J.nd J.un,ri!⟩;obtain⟨x,hx,rfl⟩:=HI.mp ha;obtain⟨y,hy,rfl⟩:=HI.mp hb;obtain⟨e,n⟩:=iX.mp z;have Y:=J.hT.le hx;have h2:=J.wn y hy;rw[e]at Y;omega
def a7l:∀{os kn:c!},((kn++os).map Op.nm).Nodup->knF os kn=kn++os
 |[],kn,_=>(IB _).symm
 |o::os,kn,h=>by
  have n:∀x∈kn,¬hb_:=λx hx z=>by
   rw[HZ,IM]at h;exact h.2.2 x.nm (HH hx) o.nm (HH GR) (iX.mpr z)
  show knF os aG_=_;rw[yH n,a7l (by rw[IY];exact h),IY];rfl
def Jn.kn0(J:bk_):knF J! []=T++W:=by rw[a7l (by rw[JY];exact J.names),JY]
def c6z(J:bk_)(hm:c9!)(e:Ov yy aU! ms J! false=false):Ll T yy b0! []≠none:=λz=>by
 obtain⟨k1,k2,k3,_⟩:=oI J.unq J.names e;have mem:∀{x},x∈T\/x∈W\/x∈ms->x∈knF ms J!:=λ{x} h=>(k2 x).mpr (by rw[GS,or_assoc];exact h);obtain⟨o,ho,n,q⟩|⟨o,ho,n,q⟩|⟨o,ho,n,x,hx,q1,q2,q3⟩:=a1e z
 .obtain a|a:=GS.mp ho
  .have:=J.wn o a;omega
  .obtain⟨x,hx,g,Y,h2⟩:=J.hT.at (hm o a).n1 n;exact q (by rw[g,k3 x (mem px_) o (mem (.inr (.inr a))) Y h2])
 .obtain a|a:=GS.mp ho
  .exact J.wy o a q
  .exact k1 o a ⟨q,by rw[<-q];exact n⟩
 .rw[JY]at hx;exact q3 (k3 x (mem (.inr cQ!)) o (mem (.inr dT!)) q1 q2)
def c8c(J:bk_)(hm:c9!)(e:ru!):Ov yy aU! ms J! false=false:=by
 obtain⟨a1,a2,_,_⟩:=sO e;have fs:=a4l .nil ru_ e;have ud:∀x∈dn,∀y∈dn,x.h=y.h->x.n=y.n->x=y:=λx hx y hy Y h2=>by
  have k1:=nN (g:=Op.v) fs.nd hx;have k2:=nN (g:=Op.v) fs.nd hy;rw[iX.mpr ⟨Y,h2⟩,k2]at k1;exact(a4b (IW k1)).symm
 cases w:Ov yy aU! ms J! false with
 |false=>rfl
 |true=>
  exfalso;obtain⟨o,ho,q,n⟩|⟨o,ho,x,hx,q1,q2,q3⟩:=a0b w
  .exact(a2 o (GV _ ho) (by rw[q];exact n)).1 q
  .have om:=GV W ho;by_cases c:o.n<=nh T o.h
   .have g:=a1 o om c;have oT:o∈T:=(eG.mp (MJ g)).1;obtain hx|hx:=GS.mp hx
    .obtain y|y:=GS.mp hx
     .exact q3 (J.hT.unq x y o oT q1 q2)
     .have:=J.wn x y;rw[q1]at this;omega
    .have g2:=a1 x (GV W hx) (by rw[q1,q2];exact c);rw[q1,q2,g]at g2;exact q3 (IW g2).symm
   .have od:=(a2 o om a!).2;obtain hx|hx:=GS.mp hx
    .obtain y|y:=GS.mp hx
     .have:=J.hT.le y;rw[q1]at this;omega
     .exact q3 (ud x (a2 x (GU _ y) rx!).2 o od q1 q2)
    .exact q3 (ud x (a2 x (GV _ hx) rx!).2 o od q1 q2)
def c2i(h:Cv T)(hx:x∈T):x.tm<=lt T x.h:=by
 obtain⟨i,Y,_⟩:=h.ix hx;obtain⟨hi,e⟩:=HG.mp Y;unfold lt;cases g:(lw!).getLast? with
 |none=>rw[PF]at g;rw[g]at hi;cases hi
 |some z=>
  show x.tm<=z.tm;rw[List.getLast?_eq_getElem?]at g;obtain⟨hj,e2⟩:=HG.mp g;obtain c|c:=KN i ((lw!).length - 1)
  .have:=MF.mp (h.ch x.h).tim i _ hi hj c;rw[e,e2]at this;omega
  .have ij:i=(lw!).length - 1:=by omega
   have:x=z:=by rw[<-e,<-e2];congr 1
   rw[this];exact KW _
def c8k(h:Cv T){q:Op}(t1:1<=q.tm)(k:∀x∈T,x.h=q.h->x.tm<q.tm):lt T q.h<q.tm:=by
 unfold lt;cases g:(hs T q.h).getLast? with
 |none=>show(0:Int)<q.tm;omega
 |some z=>
  have m:=eG.mp (List.mem_of_getLast? g);exact k z m.1 m.2
def c7i(J:bk_)(hm:c9!)(e:ru!)(hu:Uu hL_):Ur T dn=true↔∀x∈T++W++ms,∀y∈T++W++ms,¬Uq x y:=by
 obtain⟨a1,a2,_,a4⟩:=sO e;have fs:=a4l .nil ru_ e;have perm:(fl!).Perm dn:=cJ dn;have srt:Rs Mj fl!:=jU fs.key;have xc:∀o∈T++W++ms,OpF o:=λo ho=>(dT!).elim (J.ops o) (hm o);have cs:∀x∈T++W++ms,(x.n<=nh T x.h/\x∈T)\/(nh T x.h<x.n/\x∈dn):=λx hx=>by
  by_cases c:x.n<=nh T x.h
  .obtain⟨z,hz,_,Y,h2⟩:=J.hT.at (xc x hx).n1 c;exact .inl ⟨c,hu z (GU _ (GU _ hz)) x hx Y h2▸hz⟩
  .refine .inr ⟨m_,?_⟩;rw[IY]at hx;obtain z|z:=GS.mp hx
   .exact absurd (J.hT.le z) c
   .exact(a2 x z a!).2
 have bk:∀x∈dn,x∈T++W++ms:=λx hx=>by
  obtain z|z:=a4 x hx
  .cases z
  .rw[IY];exact GV _ z.1
 unfold Ur;rw[a8a];show"!|"
 .rintro⟨Y,h2⟩ x hx y hy ⟨v1,v2,v3⟩;obtain⟨c,yT⟩|⟨c,yd⟩:=cs y hy
  .obtain⟨_,xT⟩|⟨c2,_⟩:=cs x hx
   .have:=J.tm x (GU _ xT) y (GU _ yT) v1 v2;omega
   .rw[v1]at c2;omega
  .have hy':=Y y rB!;obtain⟨_,xT⟩|⟨_,xd⟩:=cs x hx
   .have:=c2i J.hT xT;rw[v1]at this;omega
   .obtain⟨i,hi,ei⟩:=OO.mp (perm.mem_iff.mpr xd);obtain⟨j,hj,ej⟩:=OO.mp rB!;obtain c3|c3|c3:=Nat.lt_trichotomy i j
    .have:=MF.mp h2 i j hi hj c3;rw[ei,ej]at this;have:=this v1;omega
    .subst c3;rw[ei]at ej;rw[ej]at v2;omega
    .have:=MF.mp srt j i hj hi c3;rw[ei,ej]at this;have:=a1p (x:=y) (y:=x) this v1.symm;omega
 .intro h;refine⟨c3!,?_⟩
  .have qd:=perm.mem_iff.mp hq;have qU:=bk q qd;refine c8k J.hT (xc q qU).t1 λx hx eh=>?_;have n:x.n<q.n:=by have:=J.hT.le hx;have:=fs.n q qd;rw[<-eh]at this;omega
   have:=h x (GU _ (GU _ hx)) q qU;exact IJ λz=>this ⟨eh,n,m_⟩
  .refine(List.Pairwise.and_mem.mp srt).imp λ{x y} qj eh=>?_;have:=h x (bk x (perm.mem_iff.mp qj.1)) y (bk y (perm.mem_iff.mp qj.2.1));exact IJ λz=>this ⟨eh,a1p (x:=x) (y:=y) qj.2.2 eh,m_⟩
end
section
variable{t:Bl}{M M0:Mh}{ρ:Ab}{yy:Int}{la lw p:yz!}{T W U kn ms:List Op}{o:Op}
def c6f{ep:Nat}(hp:fw!)(nd:na_):∀(zs:c!) (x8 x10:R!) (R:j!),(∀y∈zs,y∈kn)->((∃x∈zs,∃y∈kn,Uq x y)->R (.rt hE_) M)->
  ((¬∃x∈zs,∃y∈kn,Uq x y)->∀x8' ez,R (.nx (ev yy la lw xs x4 ap_ x6 x7 x8' x9 ez x11)) M)->
  El (Bd 8) ll_ rD! (zs.map Op.nm) qG_ M R:=by
 intro zs
 induction zs with
 |nil=>intro x8 x10 R _ _ h;exact⟨hp,h q1! _ _⟩
 |cons x zs ih=>
  intro x8 x10 R hm Y h2;refine⟨hp,?_⟩;show Bs gd_ ge! Zq q0_ M _;unfold Bs Gf;rw[bM (f:=fVar 5) (d:=.fn p) rfl,dQ!];refine dF ?_;have ek:(hw_).map c_=kn.map Op.nm:=by unfold kvO;rw[JJ];rfl
  show El ge! ll_ Zq ((hw_).map c_) _ M _;rw[ek];refine c8x hp nd (hm x GR) kn x10 _ rG! (λz=>Y ⟨x,GR,z⟩) λn ez=>?_;exact ih e7_ ez R q2! q3! λn2=>h2 λ⟨z,hz,q⟩=>(GT.mp hz).elim (λe=>n (e▸q)) λe=>n2 ⟨z,e,q⟩
def b3t(hw:M lw=some kN!)(hW:C9!)(ho:bz_):Kz true M o.v cu_=some (.bl (decide (o∉W))):=by
 show"!d"
 have e:Kz true M o.v cu_=Kz.inS true M o.v cu_:=by simp only[Kz,hw]
 show"#)";rw[PZ,PZ,A!,HC trivial];congr 2;by_cases c:o∈W
 .rw[qK_];rw[List.any_eq_true.mpr Da!];rfl
 .rw[HF c];rw[RG.mpr λd hd z=>?_];rfl;show"!m"
def b5v{fo:WE}{fa:i_}{R:j!}(h:fo ρ M λd M1=>CT fa ρ d M1 λ_ M2=>R Z_ M2):Bb (Hi fo e6_) ρ M R:=h
def CH:WS:=(Ad v5_
 (At CK! (Ad v8_
 (Ad nr_
 wa!)) wc_))
def c1e{k:Int}{R:j!}(hU:Uw U)(h:dW!)(g:hn_)(nn:Nnx T W)(ho:c6_)
  (hR:∀T' W' M' fz,LT M' la lw T' W'->Rc U T W o T' W'->Je M M' la lw->R (.nx (ev yy la lw xs al! x5 x6 x7 x8 (some fu_) x10 fz)) M'):
  CH rH_ M R:=by
 have hl:=g.ln hU;have oF:=hU.op o ho;have hW:∀x∈W,OpF x:=λx hx=>hU.op x g7!;have c0:=a4z (a5p (i:=1) (ix:=[4]) (d:=o.v) (k:=o.h) (ρ:=ev yy la lw xs al! x5 x6 x7 x8 fC! x10 x11) rfl rfl h.t a! λx _=>a7s);rw[GY]at c0;refine eL c0 ?_;show At _ _ _ lA! M _;have e1:fT v6_ lA!=some (o.n==nh T o.h+1):=by
  refine df_;show(hu_).bind (λa=>eqD' a (.int (nh T o.h+1)))=_;rw[iR];exact dN _ _
 by_cases c:o.n=nh T o.h+1
 .rw[JC.mpr c]at e1;have hw:o∉W:=λz=>nn o z c;refine eM (dU e1) ?_;refine eL (aV (d:=.int S_) rfl) ?_;show Ad nr_ _ (ev yy la lw xs al! x5 x6 x7 x8 (some pH!) x10 fC_) M _;refine qM ?_;rw[rI_];refine iZ (v:=o.v) h.t rfl bX_ ?_;rw[qq!];have Y:LT (mup M la (.lst ((cv_).map Op.v))) la lw cv_ W:=⟨mup_same,(qs!).trans h.w,h.ne⟩;have g1:=g.take hU ho c hw;unfold Ai w2;rw[bM (f:=fVar 9) (d:=.int S_) rfl];refine wM (a:=bB_) (b:=bj_) rfl rfl (a8v hU Y g1 λT' W' M' h' g' e' n' o'=>?_);have ea:Gk M' pH! (.int rK_)=some fu_:=by
   show some (D.int (k+1+rK_))=_;rw[HN,JK,show k+1+((fv!:Int) - ((T.length+1:Nat)))=k+(fv! - k2_)by omega]
  show"#=";rw[ea];exact hR T' W' M' _ h' ⟨g',n',λ_=>e',Db_⟩ λb b1 b2=>(rL_).trans (mup_ne b1)
 .rw[IQ.mpr c]at e1;refine iO (dU e1) ?_;have e2:fT wb_ lA!=some (decide rM!):=by
   refine df_;show(hu_).bind (λa=>Hq a rI!)=_;rw[iR];rfl
  have RZ:Gi M [bj_]=some (.int (aF!:Nat)):=by
   show((Jh M cu_).map λxs=>D.int g!)=_;simp only[Jh,h.w,LF,GY]
  have cond:=xD (dU (M:=M) e2) λ_=>xD (jB (eK (ρ:=ev yy la lw xs al! x5 x6 x7 x8 fC! x10 fC_) lc_ rM_ (b3t h.w hW oF))) λ_=>jB (eK (g:=λ_=>ltD) (lJ rM_ RZ) (aV (f:=fC (.int 8)) (d:=.int 8) rfl) (d:=.bl (decide rN_)) rfl);have e3:(decide rM!&&(decide (o∉W)&&decide rN_))=decide (nh T o.h<o.n/\o∉W/\aF!<8):=by
   rw[JH,HQ,HQ,HS,HS,HS,HS];show"!|"
   .exact λz=>rO!
   .exact λz=>rO!
  rw[e3]at cond;by_cases d:nh T o.h<o.n/\o∉W/\aF!<8
  .rw[HF d]at cond;refine eM cond ?_;refine b5v ?_;rw[bM (f:=fVar 2) (d:=bj_) rfl];refine iZ (v:=o.v) h.w rfl bX_ ?_;rw[show W.map Op.v++bW!=(ky!).map Op.v by rw[HZ];rfl];have g':=g.wait ho d.1 d.2.1 d.2.2;have:=hR T ky! (mup M lw (.lst ((ky!).map Op.v))) fC_ ⟨(qr_).trans h.t,mup_same,h.ne⟩ ⟨g',G_,rO_,λ_=>⟨rfl,by rw[HC d]⟩⟩ λb _ b2=>mup_ne b2
   .rw[NB,PB]at this;show"#-"
   .obtain y|y:=GS.mp hx
    .exact nn x y
    .rw[GZ.mp y];exact c
  .rw[HB d]at cond;refine iO cond ?_;have:=hR T W M fC_ h ⟨g,nn,rO_,λ_=>⟨rfl,by rw[HA d]⟩⟩ .refl;rw[NB,PB]at this;show"#-"
def c1f(hU:Uw U):∀(os T W:c!) (k:Int) (x4 x11:R!) (M:Mh) (R:j!),LT M la lw T W->Gd U T W->Nnx T W->pz!->
  (∀T' W' M' el fz,LT M' la lw T' W'->Gd U T' W'->Nnx T' W'->Rcs U os T W T' W'->Je M M' la lw->R (.nx (ev yy la lw xs el x5 x6 x7 x8 (some fu_) x10 fz)) M')->
  El ad! W! CH F! (ev yy la lw xs x4 x5 x6 x7 x8 fC! x10 x11) M R:=by
 intro os
 induction os with
 |nil=>
  intro T W k x4 x11 M R h g nn _ hR;have:=hR T W M x4 x11 h g nn .nil .refl;show"!z"
 |cons o os ih=>
  intro T W k x4 x11 M R h g nn hm hR;refine aE!;show CH rH_ M _;refine c1e hU h g nn hk_ λT1 W1 M1 fz Y rc o1=>?_;refine ih T1 W1 _ al! fz M1 R Y rc.g rc.n kS_ λT' W' M' el x11'' h' g' n' rs o'=>?_;have:=hR T' W' M' el x11'' h' g' n' p9! k2!;rw[qx!];show"#-"
def BU(M M':Mh)(la lw:yz!):Prop:=∀b,M b≠none->b≠la->b≠lw->M' b=M b
def c5n(h:kW!)(hl:a9!<200):Pu nq! qB_ M rP_:=λK hK=>by
 unfold Cd Ci;rw[rI_];show qh!;rw[h];refine kB!;refine dS rQ! (λd=>match d with|.tup (_::n::_)=>n|_=>.non) h _ _ fr_ ?_
 .obtain⟨o,ho,rfl⟩:=HI.mp hd;have e1:fT np_ lC_=some c8_:=by
   refine df_;show(fs!).bind qL_=_;rw[gY];exact dN _ _
  exact⟨lC_,rfl,λK hK=>dU e1 K hK,λ_ K hK=>by
   have e2:f2 ixD k! s_ lC_=some km_:=iR o;rw[bM e2];exact hK⟩
 .rw[QI];have e:(T.filter (rQ!∘Op.v))=hs T yy:=by
   unfold hs;refine KS λx _=>?_;show(x.h==yy)=decide (x.h=yy);rw[JH,JC,HS]
  rw[e,JJ];exact hK
def c0s{R:t_}(hT:kL!)(hb:p1!)(hR:R ku! M):Ml rR_ M R:=by refine p!;show Ad rT! _ rS_ M _;have hi:Ct T_ rS_=some xs:=jI rfl;unfold Ad Bs Hc;rw[hi];exact a7z xs hT (λ_=>hR) λn=>absurd hb n
structure GL(M:Mh)(yy:Int)(la lw:yz!)(T W ms:c!)(R:t_):Prop where
 nd:Ov yy aU! ms J! false=false->(lD!).Nodup
 un:Ov yy aU! ms J! false=true->∀M',LT M' la lw T W->BU M M' la lw->R (.int (-2)) M'
 tm:Ov yy aU! ms J! false=false->rT_->∀M',LT M' la lw T W->BU M M' la lw->R hE_ M'
 ok:Ov yy aU! ms J! false=false->rU!->∃U,Uw U/\Gd U T W/\Nnx T W/\qa_/\∀T' W' M',LT M' la lw T' W'->Gd U T' W'->Nnx T' W'->Rcs U ms T W T' W'->BU M M' la lw->R (.int hr!) M'
def mL{f:aC_}{b:aM_}{q q2:WS}{R:j!}(h:wz!)(k:El b W! q ds ρ M λr M1=>match r with|.nx aj=>q2 aj M1 R|.rt d=>R af! M1):Ad (Bs (Hc f) b q) q2 ρ M R:=by unfold Ad Bs Hc;rw[h];exact k
def b1t{i:Nat}{q:WS}{R:j!}(k:∀p,M p=none->q lD_ cq_ R):Ad (Ai i Hh) q ρ M R:=k
def b1s{i j:Nat}{xs ys:b!}{b:aM_}{q q2:WS}{R:j!}(Y:qg!)(h2:fVar j ρ=some cu_)(s1:M la=some A_)(s2:M lw=some aX_)(hl:g!+P!<=big)
  (k:∀p,M p=none->El b (λM=>M p=some eI!) q dV! ρ (mup M p eI!) λr M1=>match r with|.nx aj=>q2 aj M1 R|.rt d=>R af! M1):Ad (Bs (Ci (Qs lK! (wl (fVar j)))) b q) q2 ρ M R:=by
 unfold Ad Bs Ci Qs;rw[bM Y,c5!];have e1:lstM M fr!=some xs:=by simp only[lstM,s1]
 have e2:lstM M cu_=some ys:=by simp only[lstM,s2]
 rw[e1];refine dF ?_;rw[e2];refine dF ⟨hl,bC!⟩;show(match mup M p eI! p with|some (.lst xs)=>_|_=>False);rw[mup_same];exact k p hp
def b1r{i:Nat}{σ:p_}{ep:Nat}{b:aM_}{q q2:WS}{R:j!}(Y:fVar i ρ=some z_)(hp:bT!)(k:El b (λM=>M p=some e3!) q dH! ρ M λr M1=>match r with|.nx aj=>q2 aj M1 R|.rt d=>R af! M1):Ad (Bs (Gf lK!) b q) q2 ρ M R:=by unfold Ad Bs Gf;rw[bM Y,dQ!];exact dF k
def b7p{ft:WT}{f:WE}{q2:WS}{R:j!}(h:e8!)(hf:gY_)(k:R af! M):Ad (At ft (Bg f) Bm) q2 ρ M R:=by unfold Ad;exact eM h (dG hf k)
def c0r{R:t_}(h:dW!)(xc:∀o∈T++W,OpF o)(hm:c9!)(h0:knF J! []=T++W)(l1:a9!+aF!<100)(l2:pW!<64)(k:GL M yy la lw T W ms R):Ml [fe_,bB_,bj_,hf!] M R:=by
 refine p!;have hT:∀d∈ms.map Op.v,Wi d:=λd hd=>by obtain⟨o,ho,rfl⟩:=HI.mp hd;exact .inl C7_
 have nb:¬∃d∈ms.map Op.v,Ot d:=λ⟨d,hd,hb⟩=>by obtain⟨o,ho,rfl⟩:=HI.mp hd;exact mS p3! hb
 show Ad rT! (Ad (Ai 5 Hh) (Ad (Bs vV! ad! Zr) (Ad (Ai 6 iU_) (Ad (Ai 7 nq!) (Ad (Bs eD_ ad! FL) (Ad nr! (Ad (Bs gd_ (Bd 8) rD!) (Ad (Ai 9 bp!) (Ad (Bs eD_ ad! CH) (Bg iV!)))))))))) (ev yy la lw bZ! none none none none none none none none) M _;have hi:∀{x4 x5 x6 x7 x8 x9 x10 x11},Ct T_ (ev yy la lw bZ! x4 x5 x6 x7 x8 x9 x10 x11)=some bZ!:=λ{_ _ _ _ _ _ _ _}=>jI rfl;refine mL hi ?_;refine a7z bZ! hT (λz=>absurd z nb) λ_ x4=>?_;refine b1t λp hp=>?_;have pa:p≠la:=λz=>by rw[z,h.t]at hp;cases hp
 have pw:p≠lw:=λz=>by rw[z,h.w]at hp;cases hp
 have Y:LT cq_ la lw T W:=⟨(mup_ne (IA pa)).trans h.t,(mup_ne (IA pw)).trans h.w,h.ne⟩;refine b1s (la:=la) (lw:=lw) rfl rfl Y.t Y.w CO! λq hq=>?_;have qp:q≠p:=λz=>by rw[z,mup_same]at hq;cases hq
 have qa:q≠la:=λz=>by rw[z,Y.t]at hq;cases hq
 have qw:q≠lw:=λz=>by rw[z,Y.w]at hq;cases hq
 rw[<-HZ];have hq1:mup cq_ q hU! q=some hU!:=mup_same;have frq:∀b,M b≠none->mup cq_ q hU! b=M b:=λb hb=>by
  have bp:b≠p:=λz=>hb op_;exact(mup_ne λz=>by rw[<-z,mup_ne bp]at hq;exact hb hq).trans (mup_ne bp)
 have gf:LT (mup cq_ q hU!) la lw T W:=⟨(mup_ne (IA qa)).trans Y.t,(mup_ne (IA qw)).trans Y.w,h.ne⟩;refine c1h (p:=p) J! [] 0 x4 _ _ CO_ ((CV_).trans mup_same) (λM' hM=>(hM q qp).trans hq1) λM2 SC gg rq gj=>?_;rw[h0]at rq;have h2:LT M2 la lw T W:=⟨(gj la (IA pa)).trans gf.t,(gj lw (IA pw)).trans gf.w,h.ne⟩;refine eL (aV (d:=hI_) rfl) ?_;refine eL (c5n (yy:=yy) (la:=la) (lw:=lw) (xs:=ms.map Op.v) (x4:=SC) (x5:=ah!) (x6:=some X!) (x7:=none) (x8:=none) (x9:=none) (x10:=none) (x11:=none) h2.t a!) ?_;refine mL (ρ:=ev yy la lw bZ! SC ap_ ld! lI_ none none none none) hi ?_;refine c1g (p:=p) ms J! false gg SC M2 _ nI_ xc hm rq λM3 SD VJ VX qo=>?_;rw[GY];have h3:LT M3 la lw T W:=⟨(qo la (IA pa)).trans h2.t,(qo lw (IA pw)).trans h2.w,h.ne⟩;have SE:∀b,M b≠none->M3 b=M b:=λb hb=>(qo b r1_).trans ((gj b r1_).trans (frq b hb));show Ad nr! _ (ev yy la lw bZ! SD ap_ (some (.bl (Ov yy aU! ms J! false))) lI_ none none none none) M3 _;cases wg:Ov yy aU! ms J! false with
 |true=>exact b7p (dU (b:=true) rfl) (aV (d:=.int (-2)) rfl) (k.un wg M3 h3 λb hb _ _=>SE b hb)
 |false=>
  refine fE (dU (b:=false) rfl) ?_;have ek:(kvO hR!).map c_=(hR!).map Op.nm:=by unfold kvO;rw[JJ];rfl
  refine b1r (p:=p) rfl VX ?_;rw[ek];refine c6f VX (k.nd wg) hR! none none _ rG! (λz=>k.tm wg z M3 h3 λb hb _ _=>SE b hb) λz x8 x10=>?_;obtain⟨U,hU,g,nn,qi,hR⟩:=k.ok wg z;refine eL cs! ?_;refine mL (ρ:=ev yy la lw bZ! SD ap_ ld! lI_ x8 (some N_) x10 none) hi ?_;refine c1f hU ms T W 0 SD none M3 _ h3 g nn qi λT' W' M' el fz h' g' n' rs o'=>?_;exact dG qz_ (hR T' W' M' h' g' n' rs λb hb b1 b2=>(rL_).trans (SE b hb))
end
section
variable{yy:Int}{T W U kn ms dn S1 W1:List Op}{o x y:Op}
inductive Vd(T W:c!)(yy:Int)(ms:c!):Prop
 |un:Ll T yy b0! []=none->Ov yy aU! ms J! false=true->Vd T W yy ms
 |tm {dn:c!}:Ll T yy b0! []=some dn->Ur T dn=false->Ov yy aU! ms J! false=false->(lD!).Nodup->rT_->Vd T W yy ms
 |ok {dn:c!}:Ll T yy b0! []=some dn->Ur T dn=true->Ov yy aU! ms J! false=false->(lD!).Nodup->rU!->Uw hL_->(∀o∈ms,o.h=yy->o.n<=nh T yy)->Vd T W yy ms
def b7j(J:bk_)(hm:c9!)(hs:∀o∈ms,Xm o):Vd T W yy ms:=by
 cases e:Ll T yy b0! []with
 |none=>
  cases w:Ov yy aU! ms J! false with
  |true=>exact .un e w
  |false=>exact absurd e (c6z J hm w)
 |some dn=>
  have w:=c8c J hm e;obtain⟨k1,k2,k3,k4⟩:=oI J.unq J.names w;have hu:Uu hL_:=λx hx y hy Y h2=>k3 x ((k2 x).mpr cQ!) y ((k2 y).mpr (GS.mp hy)) Y h2;have tt:=c7i J hm e hu;cases o:Ur T dn with
  |false=>
   refine .tm e o w k4 (IJ λz=>?_);have:Ur T dn=true:=tt.mpr λx hx y hy v=>z ⟨x,(k2 x).mpr cQ!,y,(k2 y).mpr (GS.mp hy),v⟩;rw[o]at this;cases this
  |true=>
   have nv:=tt.mp o;refine .ok e o w k4 (λ⟨x,hx,y,hy,v⟩=>nv x (GS.mpr ((k2 x).mp hx)) y (GS.mpr ((k2 y).mp hy)) v) ⟨λo ho=>(dT!).elim (J.ops o) (hm o),hu,λx hx y hy Y h2=>?_,λo ho=>(dT!).elim (J.sm o) (hs o)⟩ λo ho h=>?_
   .exact IJ λz=>nv x hx y hy ⟨Y,h2,m_⟩
   .exact IJ λz=>k1 o ho ⟨h,m_⟩
def Jn.gd(J:bk_)(sub:∀o,o∈T\/o∈W->o∈U):Gd U T W:=⟨J.hT,λo ho=>by have:=J.wn o ho;omega,sub,J.nd,J.w8⟩
def Jn.nnx(J:bk_):Nnx T W:=λo ho z=>by have:=J.wn o ho;omega
def Rc.mono(r:Rc U T W o S1 W1):r5!/\∀x∈W1,x∈W\/x=o:=by
 by_cases c:o.n=nh T o.h+1
 .have e:=r.yes c;refine⟨dJ_,G_⟩
  .have:=e.nhle h;have:nh T h<=nh cv_ h:=by unfold nh;rw[dB,HN];omega
   omega
  .rw[e.w]at hx;exact .inl (JG.mp hx).1
 .obtain⟨e1,e2⟩:=r.no c;rw[e1,e2];refine⟨λh=>KW _,G_⟩;split at hx
  .obtain z|z:=GS.mp hx
   .exact dE!
   .exact .inr (GZ.mp z)
  .exact .inl hx
def Rcs.mono{os:c!}(r:Rcs U os T W S1 W1):r5!/\∀x∈W1,x∈W\/x∈os:=by
 induction r with
 |nil=>exact⟨λ_=>KW _,br_⟩
 |cons a r ih=>
  obtain⟨m1,m2⟩:=a.mono;refine⟨λh=>Int.le_trans (m1 h) (ih.1 h),G_⟩;obtain z|z:=ih.2 x hx
  .obtain y|y:=m2 x z
   .exact .inl y
   .exact .inr (y▸GR)
  .exact .inr eP_
def Jn.next{T' W':c!}(J:bk_)(hU:Uw U)(hy:∀o∈ms,o.h=yy->o.n<=nh T yy)(g:Gd U T' W')(n:Nnx T' W')(r:Rcs U ms T W T' W'):Jn T' W' yy:=by
 obtain⟨m1,m2⟩:=r.mono;have su:∀x∈T'++W',x∈U:=λx hx=>g.sub x cQ!;refine⟨g.hS,λo ho=>hU.op o (g.sub o h8!),sb_,λo ho z=>?_,g.nd,λx hx y hy=>hU.uniq x g7! y (g.sub y (.inr hy)),λx hx y hy=>hU.rise x (su x hx) y (su y hy),λo ho=>hU.sm o (su o ho),g.w8⟩
 .have:=g.wn o ho;have:=n o ho;omega
 .obtain q|q:=m2 o ho
  .exact J.wy o q z
  .have Y:=hy o q z;have h2:=g.wn o ho;have h3:=m1 yy;rw[z]at h2;omega
end
section
variable{t:Bl}{M M1 M2:Mh}{yy:Int}{a ta wa la lw:yz!}{T W S ms:List Op}{out:D}{kl:List Int}{ca:Int->Addr}
def Ba.congr{S':c!}(hA:Ba t M yy a ta wa W out S kl ca)(e:∀h,hs S h=hs S' h)(l:aE_=S'.length):Ba t M yy a ta wa W out S' kl ca:=
 {hA with cl:=λh hh=>by rw[<-e];exact hA.cl h hh,mem:=λh=>by rw[<-e];exact hA.mem h,len:=by rw[<-l];exact hA.len}
structure LS(t:Bl)(M:Mh)(yy:Int)(a ta wa la lw:yz!)(T W:c!)(kl:v_)(ca:g2_):Prop where
 J:Jn T W yy
 A:Ba t M yy a ta wa W .non T kl ca
 L:LT M la lw T W
 da:¬Ow a ta wa kl ca la
 dw:¬Ow a ta wa kl ca lw
def LS.keep(h:b5!)(f:∀b,M b≠none->M1 b=M b):LS t M1 yy a ta wa la lw T W kl ca:=
 ⟨h.J,h.A.keep f,⟨(f la (by rw[h.L.t];simp)).trans h.L.t,(f lw (by rw[h.L.w];simp)).trans h.L.w,h.L.ne⟩,h.da,h.dw⟩
def LS.fr(h:b5!)(f:BU M M1 la lw):Ba t M1 yy a ta wa W .non T kl ca:=by
 refine(h.A.mv (O:=sc_) (O':=sc_) ⟨λb hb ho=>f b hb (λz=>ho du!) λz=>ho du_,λ_ z=>.inl z⟩ λb hb z=>?_).1;obtain z|z:=z
 .exact h.da dV_
 .exact h.dw dV_
def hv1:Wf gb_ bP_=some ku!:=by unfold Wf;rw[II,KB];rfl
def hv2(nd:t.nd):Wf gb_ ce_=some (.int (-2)):=by have h:=HR.mp nd.2;have n:(ce_==bP_)=false:=IQ.mpr λz=>h.1 lO!;unfold Wf;rw[II,n,II,KB];rfl
def hv3(nd:t.nd):Wf gb_ cN!=some hE_:=by have h:=HR.mp nd.2;have h2:=HR.mp h.2;have n:(cN!==bP_)=false:=IQ.mpr λz=>h.1 lO!;have n2:(cN!==ce_)=false:=IQ.mpr λz=>h2.1 lO!;unfold Wf;rw[II,n,II,n2,II,KB];rfl
def turn{xs:b!}{K:D->D->Mh->Prop}(nd:t.nd)(h:b5!)(hx:∀d∈xs,sd_\/Ot d)(hl:g!<32)
  (hK:∀i M' T' W' bu bv,LS t M' yy a ta wa la lw T' W' bu bv->(∀b,M b≠none->¬Ow a ta wa kl ca b->b≠la->b≠lw->M' b=M b)->(∀b,Ow a ta wa bu bv b->Ow a ta wa kl ca b\/M b=none)->K N! N! M'){R:t_}(hR:∀i M1,(Om t p1_ M1 λv' M2=>K N! v' M2)->R N! M1):
  Ml rR_ M R:=by
 have hT:∀d∈xs,Wi d:=λd hd=>(hx d hd).imp (λ⟨o,Y,_,h2⟩=>ja!) id;have same:∀{i M'},a6!->K N! N! M':=λ{i M'} f=>hK i M' T W kl ca (h.keep f) (λb hb _ _ _=>f b hb) λb hb=>.inl hb;by_cases hb:∃d∈xs,Ot d
 .refine c0s hT hb (hR _ _ (a5x (b1m nd hT a! hb ?_)));unfold Wo;rw[hv1];exact dF (same λ_ _=>rfl)
 .obtain⟨ms,rfl,hm⟩:=a5y hT hb;rw[GY]at hl;have hsm:∀o∈ms,Xm o:=λo ho=>by
   obtain⟨o',_,q,e⟩|z:=hx o.v (HH ho)
   .rw[a4b e];exact q
   .exact absurd z (mS p3!)
  have w8:=h.J.w8;have V:=b7j h.J hm hsm;have lT:a9!<=56:=by
   have h4:=b9q λo ho=>(h.J.sm o (GU _ ho)).1;have n14:∀k,(b0_).length<=14:=λk=>IJ λz=>by
    show"!x";have n:=(h.J.hT.ch k).num _ _ hx;have m:=(pt_).1;have:=(h.J.sm _ (GU _ m)).2;omega
   show"#/"
  have frm:∀{M1:Mh},BU M M1 la lw->LT M1 la lw T W->∀b,M b≠none->M1 b=M b:=λ{M1} f L b hb=>by
   by_cases c1:b=la
   .rw[c1,L.t,h.L.t]
   .by_cases c2:b=lw
    .rw[c2,L.w,h.L.w]
    .exact f b hb c1 c2
  refine c0r h.L h.J.ops hm h.J.kn0 a! a! ?_;cases V with
  |un e w=>
   refine⟨fF_,λ_ M1 L f=>?_,fF_,fF_⟩;have fr:=frm f L;refine hR _ _ (a5x (rR nd sg_ h.J.hT h.J.op hm a! ⟨λ_ M2 f2=>?_,sh!,sh!⟩));unfold Wo;rw[hv2 nd];exact dF si_
  |@tm dn e o w n v=>
   refine⟨λ_=>n,fF_,λ_ _ M1 L f=>?_,λ_ z=>absurd v z⟩;have fr:=frm f L;refine hR _ _ (a5x (rR nd sg_ h.J.hT h.J.op hm a! ⟨λz=>lP!,λbi z _ M2 f2=>?_,sk!⟩));unfold Wo;rw[hv3 nd];exact dF si_
  |@ok dn e o w n v hU hy=>
   have g:Gd hL_ T W:=h.J.gd λo ho=>GU _ (GS.mpr ho);have qi:∀o∈ms,o∈T++W++ms:=λo ho=>GV _ ho;refine⟨λ_=>n,fF_,λ_ z=>absurd z v,λ_ _=>⟨_,hU,g,h.J.nnx,qi,λT' W' M1 L1 g1 n1 r1 f1=>?_⟩⟩;have A1:=h.fr f1;refine hR _ _ (a5x (rR nd A1 h.J.hT h.J.op hm a! ⟨λz=>lP!,sk!,λ_ _ _=>⟨_,hU,g,h.J.nnx,qi,λs' h' n' rs mv=>?_⟩⟩));obtain⟨q1,q2,q3⟩:=Rcs.uniq hU rs (λ_=>rfl) g g qi h.J.nnx r1;have ql:s'.S.length=fu!:=by omega
   have A2:Ba t s'.M yy a ta wa W' .non T' s'.kl s'.ca:=by
    have:=h'.hA;rw[q2]at this;exact this.congr q1 ql
   have ow:∀b,Ow a ta wa s'.kl s'.ca b->Ow a ta wa kl ca b\/M1 b=none:=mv.n;have na:¬Ow a ta wa s'.kl s'.ca la:=λz=>(ow la z).elim h.da λy=>by rw[L1.t]at y;cases y
   have nw:¬Ow a ta wa s'.kl s'.ca lw:=λz=>(ow lw z).elim h.dw λy=>by rw[L1.w]at y;cases y
   have L2:LT s'.M la lw T' W':=⟨(mv.k la (by rw[L1.t];simp) h.da).trans L1.t,(mv.k lw (by rw[L1.w];simp) h.dw).trans L1.w,L1.ne⟩;rw[ql];refine hK _ s'.M T' W' s'.kl s'.ca ⟨h.J.next hU hy g1 n1 r1,A2,L2,na,nw⟩ (λb hb ho b1 b2=>?_) λb hb=>?_
   .have k1:=f1 b hb b1 b2;exact(mv.k b (by rw[k1];exact hb) ho).trans k1
   .obtain z|z:=ow b hb
    .exact dE!
    .by_cases c:M b=none
     .exact .inr c
     .have b1:b≠la:=λy=>na (y▸hb);have b2:b≠lw:=λy=>nw (y▸hb);rw[f1 b c b1 b2]at z;exact absurd z c
end
def b8r{α:Type}(p q:α->Bool)(l:ad_)(h:∀x∈l,¬(p x=true/\q x=true)):(l.filter p++l.filter q).Perm sp_:=by
 have Y:=List.filter_append_perm p sp_;rw[OY,OY]at Y;have e1:(l.filter λx=>p x&&(p x||q x))=l.filter p:=KS λx _=>by cases p x<;>simp
 have e2:(l.filter λx=>(!p x)&&(p x||q x))=l.filter q:=KS λx hx=>by
  cases c:p x<;>cases d:q x<;>simp_all
 rw[e1,e2]at Y;exact Y
def wE{S:c!}:∀{kl:v_},kl.Nodup->(lU_).Perm (S.filter λo=>decide (o.h∈kl))
 |[],_=>by simp
 |k::kl,nd=>by
  rw[HR]at nd;refine((wE nd.2).append_left _).trans ?_;refine(b8r (λo:Op=>decide (o.h=k)) (λo=>decide (o.h∈kl)) S λx _ z=>?_).trans (List.Perm.of_eq (KS λx _=>by simp[GT]));simp only[HS]at z;exact nd.1 (z.1▸z.2)
section
variable{t:Bl}{M:Mh}{ρ:Ab}{yy:Int}{a ta wa:yz!}{Wt:List Op}{out:D}{S:List Op}{kl:List Int}{ca:Int->Addr}{h:Int}
def Ba.perm(hA:ab_):(lU_).Perm S:=by refine(wE hA.nk).trans (List.Perm.of_eq (JL.mpr λo ho=>?_));rw[HS,hA.mem];intro z;have:o∈hs S o.h:=eG.mpr pt!;rw[z]at this;cases this
def EJ(t:Bl):WS:=Wl 1 mJ_
def a8j{ck:dL!}(hA:ab_)(c9:ck M)(hS:fH!):∀(ks:v_) (acc:c!) (y:R!) (R:j!),(∀h∈ks,h∈kl)->gV_+64*jN_<100000->
  (∀y',R (.nx [q_,some (.lst ((acc++ks.flatMap (hs S)).map Op.v)),y']) M)->
  El en_ ck (EJ t) (ks.map D.int) [q_,sq_,y] M R
 |[],acc,y,R,_,_,hR=>⟨c9,by have:=hR y;simpa using this⟩
 |h::ks,acc,y,R,hk,hl,hR=>by
  refine⟨c9,?_⟩;show"#+";have hh:=hk h GR;show EJ t sr_ M _;show Wl 1 mJ_ sr_ M _;have i1:Do M kn_ dO_=some kr!:=(BX_).trans (by rw[fL,HC hh]);refine eK g4! g4_ i1 _ ?_;rw[gA g3_];refine dF ?_;have hlS:(dN_).length<64:=JO (zE S h) hS;simp only[HJ]at hl;refine ss!;rw[<-HZ];refine a8j hA c9 hS ks (acc++hs S h) lW_ R CT_ nI_ λy'=>?_;have:=hR y';rw[List.flatMap_cons,<-IY]at this;show"#-"
def oG(hA:ab_)(hH:Cv S)(hS:fH!):Wj (Dy t) [B_] M lX!:=λK hK=>by
 obtain⟨ep,ht⟩:=hA.tk;refine p!;show Ad (Bs mK! en_ (EJ t)) uj! [q_,g0!,none] M _;unfold Ad Bs Gf;refine dZ aP_ hA.ob hF2 _ ?_;rw[bZ ht];refine dF ?_;have VV:ko_<64:=JO hA.len hS;have ek:(g3!).map c_=kl.map D.int:=by rw[JJ];rfl
 rw[ek];refine a8j hA ht hS kl [] none _ (λh hh=>hh) cA! λy'=>?_;have hp:=hA.perm;have nd:((lU_).map Op.key).Nodup:=(kh!).nodup_iff.mpr hH.keys;have he:f1 Ck eg! [q_,some (.lst st_),y']=some lX!:=by
  show Ck [.lst st_]=_;rw[JY,kO nd su!,pQ hp nd]
 exact dG (aV he) hK
structure OS(t:Bl)(M:Mh)(a o:yz!)(O:bg_)(W:OW):Prop where
 hob:∃yy ta wa,M a=some l1!
 out:Bo t M o O W 1500
def b8q{R:t_}(hA:Ba t M yy a ta wa Wt .non S kl ca)(hH:Cv S)(hS:fH!)(hr:Yf W0 (Tp (Sa .str fH_ []) fH_) W')
  (hR:∀M' o O',OS t M' a o O' W'->Ba t M' yy a ta wa Wt a2! S kl ca->(∀b,M b≠none->b≠a->M' b=M b)->(∀b,M b≠none->¬O' b)->R a2! M'):Il t [B_] M R:=by
 refine p!;show Ad ul! (Bg mK_) [q_] M _;refine eM (jB (eK (dZ aP_ hA.ob hF4) (aV (d:=.non) rfl) rfl)) ?_;refine mK ?_;have hp:(fH_).Perm S:=cJ S;have hc:∀K:D->Mh->Prop,Hy t [.lst ss_] M K->Ap 1 (Hy t) (Aa mL! Ac) [q_] M K:=λK h=>by
  show Ap 1 (Dy t) bI_ [q_] M _;exact sE dT_ (oG hA hH hS) _ eN_
 refine hc _ (a9d (W':=W') ((kh!).nodup_iff.mpr hH.keys) ((kh!).nodup_iff.mpr hH.names) su! (λo ho=>(hH.op o (hp.mem_iff.mp ho)).dg) (by rw[b1n hH.keys];exact hr) λo M1 O' ho hO hw fr=>?_);have fa:=fr a kp!;refine gB (fs:=hF yy ta wa .non) rfl (fa.1.trans hA.ob) kf_ hP5 ?_;have h2:Bo t sy_ o O' W' 1500:=hO.keep λc hc=>mup_ne λz=>fa.2 (by rw[<-z];exact hc);have k:∀b,M b≠none->b≠a->mup M1 a l1! b=M b:=λb hb hn=>(ol_).trans (he_).1;show"#+";have k8:Ba t sy_ yy a ta wa Wt a2! S kl ca:={hA with ob:=mup_same,tk:=⟨ep,(k ta kp_ λz=>by rw[z,hA.ob]at ht;cases ht).trans ht⟩,wt:=(k wa kq! λz=>by have:=hA.wt;rw[z,hA.ob]at this;cases this).trans hA.wt,cl:=λh hh=>(k _ kq_ λz=>by have:=hA.cl h hh;rw[z,hA.ob]at this;cases this).trans g3_};exact dG (dZ aP_ mup_same hF4) (hR _ o O' ⟨⟨yy,ta,wa,mup_same⟩,h2⟩ k8 k λb hb=>(he_).2)
def fM{i:Nat}{f:WE}{q:WS}{R:j!}(h:f ρ M λd M1=>q bs! M1 R):Ad kg! q ρ M R:=h
def zF:∀(xs:v_) (a:Int),a<=xs.foldl max a/\∀x∈xs,x<=xs.foldl max a
 |[],a=>⟨KW _,A1_⟩
 |y::xs,a=>by
  obtain⟨Y,h2⟩:=zF xs (max a y);rw[OB];refine⟨m_,G_⟩;obtain rfl|hx:=GT.mp hx
  .omega
  .exact h2 x hx
def a7t:∀(xs:v_) (a:Int),xs.foldl max a=a\/xs.foldl max a∈xs
 |[],a=>.inl rfl
 |y::xs,a=>by
  rw[OB,GT];obtain z|z:=a7t xs (max a y)
  .rw[z];omega
  .exact .inr du_
def Yb:List Int->Int:=Vo 0 none
def b4a:∀{l:v_},l≠[]->Yb l∈l
 |[],h=>absurd rfl h
 |x::xs,_=>GT.mpr (a7t xs x)
def a4q:∀{l:v_} {x:Int},x∈l->x<=Yb l
 |y::xs,x,h=>by
  obtain rfl|h:=GT.mp h
  .exact(zF xs x).1
  .exact(zF xs y).2 x h
def Ya(S:c!):Int:=Yb (S.map Op.tm++[0])
def c4o{o:Op}(h:o∈S):o.tm<=Ya S:=a4q (GU _ (HH h))
def c4n{B:Int}(h0:0<=B)(h:∀x∈S,x.tm<=B):Ya S<=B:=by
 obtain z|z:=GS.mp (b4a (l:=S.map Op.tm++[0]) d_)
 .obtain⟨o,ho,e⟩:=HI.mp z;have:=h o ho;show Yb _<=B;omega
 .have h3:Ya S=0:=GZ.mp z;omega
def c8l(hh:hs S h≠[]):∃o∈S,o.tm=lt S h:=by
 unfold lt;cases e:(dN_).getLast? with
 |none=>exact absurd (PF.mp e) hh
 |some o=>exact⟨o,(eG.mp (List.mem_of_getLast? e)).1,rfl⟩
def a2a{α:Type}(f:α->Int):∀l:List α,Ol sC!=some fj_
 |[]=>rfl
 |x::l=>by
  show(Ol sC!).map (f x::·)=_;rw[a2a f l];rfl
def b9m{k:aA!}{l:v_}(h:l=[]->k=some 0):Vp k [.lst (l.map D.int)]=some sD_:=by
 show(Ol (l.map λh=>D.int (id h))).bind _=_;rw[a2a,PY];show(if l=[]then k.map D.int else some sD_)=_;split
 .rename_i z;rw[h z,z];rfl
 .rfl
def c8e:0<=Ya S:=a4q (GV _ za_)
def xS(hA:ab_)(hH:Cv S)(hl:fH!):Wj (Hj t) [B_] M (.int (1+Ya S)):=λK hK=>by
 obtain⟨ep,ht⟩:=hA.tk;have hk:∀x∈S,x.h∈kl:=λx hx=>(hA.mem x.h).mpr λy=>by have hm:x∈hs S x.h:=eG.mpr ⟨hx,rfl⟩;rw[y]at hm;cases hm
 have e:Yb l4!=Ya S:=by
  have z:kl.map (lt S)=[]\/∃o∈S,o.tm=Yb l4!:=(Classical.em _).imp_right λkn=>by
   obtain⟨h,hh,e⟩:=HI.mp (b4a kn);rw[<-e];exact c8l ((pm_).mp hh)
  refine Int.le_antisymm ?_ ?_
  .obtain z|⟨o,ho,e⟩:=z
   .rw[z];exact c8e
   .rw[<-e];exact c4o ho
  .refine c4n ?_ λo ho=>Int.le_trans (c2i hH ho) (a4q (HH (f:=lt S) (hk o ho)));obtain z|⟨o,ho,e⟩:=z
   .rw[z];exact KW _
   .have:=(hH.op o ho).t1;omega
 refine p!;have hc:Pu uT! [q_] M (.lst ((l4!).map D.int)):=λK hK=>by
  unfold Cd Gf;refine dZ aP_ hA.ob hF2 _ ?_;rw[bZ ht];have VV:ko_<64:=JO hA.len hl;refine dF ss!;refine dS ki! (λd=>match d with|.int h=>.int (lt S h)|_=>.non) ht _ _ kB_ ?_
  .rw[JJ]at hd;obtain⟨h,_,rfl⟩:=HI.mp hd;exact⟨[kt_,q_],rfl,l4_,λ_ K hK=>iV dT_ g4_ (nK hA) _ hK⟩
  .rw[JL.mpr q!,JJ,JJ];rw[JJ]at hK;exact hK
 exact dG (eK kt! (lJ hc ((b9m λ_=>rfl).trans (by rw[e]))) rfl) hK
def b7c{g:WF}{f1 f2:WE}{K:t_}(Y:Pu f1 ρ M x)(h2:Pu f2 ρ M y)(k:g [x,y] M K):Ap 2 g Bh! ρ M K:=by exact Y _ (h2 _ fb!)
def a6k{f g:WE}(h:gY_)(h2:Pu g ρ M e):Pu (Uv (Aa f (Aa g Ac))) ρ M (.tup [d,e]):=λK hK=>by
 exact h _ (h2 _ ⟨o5!,hK⟩)
def b9n{R:t_}(hA:ab_)(hH:Cv S)(hl:aE_<63)
  (hR:∀M' bu bv,Ba t M' yy a ta wa Wt .non (S++[⟨yy,1+sL_,1+Ya S,d⟩]) bu bv->R (.tup l7!) M'):Qk t [B_,d] M R:=by
 have hT:=xS hA hH a!;refine p!;refine eL (a6k sM! (eK (iU aP_ pp_ sM! (nT hA)) kt! (d:=.int l6!) (by rw[Int.add_comm];rfl))) ?_;have hv:Pu uU_ [q_,cp!,some (.tup l7!)] M (Op.mk yy l6! (1+Ya S) d).v:=eK sN_ (a6k (sE dT_ hT) (aV (d:=d) rfl)) rfl;refine a0i (b7c dT_ hv (pO hA a! λM' bu bv jh _=>?_));exact dG sN_ (hR M' bu bv jh)
def c9n{h:Int}(h0:0<=h)(Y:h<16):(d9_).flatten[(h - d5_).toNat]?=some N_:=by have e:(d9_).flatten=List.replicate 16 (D.int 0):=rfl;rw[e,KJ,by_]
def a1u:∀{xs:b!} {k:Nat} {h:Int} {x:D},(k:Int)<=h->xs[(h - k).toNat]?=some x->kget ((xs.zipIdx k).map λq=>fJ!) dO_=some x
 |[],k,h,x,_,e=>by simp at e
 |y::xs,k,h,x,hk,e=>by
  rw[QC,HD];unfold kget;by_cases c:(k:Int)=h
  .rw[HC (by rw[c])];rw[<-c,NB]at e;exact e
  .rw[HA λz=>c pm!];refine a1u a! ?_;rw[show(h - (k:Int)).toNat=(h - ((k+1:Nat):Int)).toNat+1 by omega,List.getElem?_cons_succ]at e;exact e
def b5n{R:t_}(hA:ab_)(hH:Cv S)(hS:fH!)
  (hR:∀M',a6!->R lX! M'):Ql t [B_,.lst (d9_).flatten] M R:=by
 refine p!;refine fM ?_;refine⟨Q_,bC!⟩;have fr:∀b,M b≠none->mup M p (.dct sQ! (d9_).flatten.length) b=M b:=λb hb=>mup_ne (cZ hb hp);have j0:=hA.keep fr;unfold Bg Cd Ci;refine sE dT_ (oG j0 hH hS) _ ?_;have pm:(fH_).Perm S:=cJ S;refine sQ_;refine dS (λd=>true) id trivial _ _ kB_ ?_
 .obtain⟨o,ho,rfl⟩:=HI.mp hd;have hf:=hH.op o (pm.mem_iff.mp ho);have hb:=hf.hh;have Y:=hf.n1;refine⟨[H!,ah!],rfl,l8!,kC!⟩;have hg:(kget sQ! cr!).getD N_=.int 0:=by
   rw[a1u (k:=0) (x:=ax_) a! (by exact c9n hb.1 hb.2)];rfl
  have e:Hq km_ N_=some u_:=by
   show some (D.bl (decide (0<o.n)))=_;rw[HF a!]
  exact jB (eK ks_ (jX kI! (aV (gY o)) cs! mup_same (k:=g8!) rfl hg) e) K hK
 .rw[PY,l9!];exact hR _ fr
end
section
variable{t:Bl}{M:Mh}{ρ:Ab}{yy:Int}{a ta wa la lw:yz!}{T W:List Op}{out:D}{kl:List Int}{ca:Int->Addr}{o:Op}
nonrec def own1(yy:Int):Op:=⟨yy,1,1,.tup l9_⟩
def c3x:DG (.tup l9_):=.put al_ al_
def b8d{R:t_}(hA:Ba t M yy a ta wa [] .non [] kl ca)(hR:∀M' bu bv v,Ba t M' yy a ta wa [] .non ma! bu bv->R v M'):Tl t [B_,cX_,.non] M R:=by
 refine p!;refine tO (tW (b:=B_) (c:=cX_) rfl rfl p!);have hr:Yf W0 (Tp (Sa .str (srt []) []) (srt [])) W0:=.nil;refine fM (c2r (a:=B_) rfl (b8q hA .nil b_ hr λM1 o O' os j0 fr fo=>?_));have hh:Pe uS_ [q_,some dm_,aa!] M1 false:=by
  have hp:Jr W0 dm_:=by unfold Jr;simp
  have hg:Wj fP_ [ax!,cX_] M1 u_:=λK hK=>a5d (k:=some (.inl (.inr "root"))) os.out rfl (by rw[HF hp];exact hK);exact c3o (jB (iU sT! (os.out.noOb oM1) (aV (d:=cX_) rfl) hg))
 refine fE hh (dG sT! ?_);show Bg uX_ [q_,some dm_,some .non] M1 _;unfold Bg;refine wM (a:=B_) (b:=.tup l9_) rfl rfl (b9n j0 .nil b_ λM2 w9 xa k8=>?_);exact hR M2 w9 xa _ k8
end
section
variable{ρ:Ab}{o:Op}
def Xo(d:D):Prop:=sd_\/Ot d
def Tq:D:=.tup [oz!,.str "bin"]
nonrec def mB:Ab->Option Fl:=(sSeq vG_
 (sSeq vH_
 (sSeq vJ!
 (sSeq vK_
 (sSeq vM_
 (sSeq vQ!
 (sSeq vS_
 (Nc 3 aj!))))))))
def ifW{w j:Int}{q:bg!}(h:fVar 7 ρ=some (.int w)):Dr (fT sT_) q Bj ρ=if w=j then q ρ else some Z_:=by
 have e:fT sT_ ρ=some (w==j):=by
  refine df_;show(fVar 7 ρ).bind (λa=>eqD' a cm!)=_;rw[h];exact dN _ _
 unfold Dr;rw[e];show(if(w==j)=true then q ρ else Bj ρ)=_;by_cases c:w=j
 .rw[HC (JC.mpr c),HC c]
 .rw[HA (by rw[JC];exact c),HA c];rfl
abbrev Ug(sc:D)(b:Int)(ops xs:b!)(j m:Int)(d:D)(w:Int):Ab:=[fK!,dk_,ak!,c9_,dM!,eS!,cp!,some (.int w)]
def c7d{b j m w:Int}:f2 Ag vJ_ vK! h6_=some (sU!).v:=by simp[Op.v,f2,Dj,fVar,Al,Ak,fC,Ay,Cf,HT.sIx,Ag,Tq,big]
def c7c{b j m w:Int}:f2 Ag vM! iT_ h6_=some (sV!).v:=by simp[Op.v,f2,Dj,fVar,Al,Ak,fC,Ay,Cf,HT.sIx,Ag,big,Au,aCons,aNil,ixD,atI,Eh,modD,Av,Co]
def c7b{b j m w:Int}:f2 ixD vP! vP_ h6_=some sW!:=by
 have h:m / 168%2=0\/m / 168%2=1:=by omega
 obtain z|z:=h<;>simp[Op.v,f2,Dj,fVar,Al,Ak,fC,Ay,Cf,HT.sIx,Ag,big,Au,Eb,aCons,aNil,ixD,atI,Eh,modD,Av,Co,z]
def c7a{b j m w:Int}:f2 Ag vS! iT_ h6_=some (sX_).v:=by simp[Op.v,f2,Dj,fVar,Al,Ak,fC,Ay,Cf,HT.sIx,Ag,big,Au,aCons,aNil,ixD,atI,Eh]
def AW(o:Op)(m w:Int):D:=
 if w=0 then(sU!).v else if w=1 then(sV!).v
 else if w=2 then sW! else if w=3 then(sX_).v else o.v
def b9d{m w:Int}(ho:bz_)(hs:Xm o)(hn:o.n<=11)(ht:o.tm<=900):Xo (AW o m w):=by
 unfold AW;have h3:0<=m / 168%3/\m / 168%3<3:=by omega
 have:=ho.n1;have:=ho.t1;split
 .exact .inl ⟨Op.mk o.h o.n o.tm Tq,⟨ho.hh,ho.t1,ho.t2,ho.n1,ho.n2,.drop g1!⟩,hs,rfl⟩
 .split
  .exact .inl ⟨Op.mk o.h o.n sU_ o.d,⟨ho.hh,(by show 1<=o.tm+1+m / 168%3;omega),(by show o.tm+1+m / 168%3<=1000;omega),ho.n1,ho.n2,ho.dg⟩,hs,rfl⟩
  .split
   .split
    .exact ob!
    .exact .inr (.inr ⟨_,_,_,rfl,ho.hh.1,ho.hh.2⟩)
   .split
    .exact .inl ⟨Op.mk o.h (o.n+3) (o.tm+40) o.d,⟨ho.hh,(by show 1<=o.tm+40;omega),(by show o.tm+40<=1000;omega),(by show 1<=o.n+3;omega),(by show o.n+3<=2000;omega),ho.dg⟩,⟨hs.1,by show o.n+3<=14;omega⟩,rfl⟩
    .exact .inl ⟨o,ho,hs,rfl⟩
def c4s{b j m:Int}{os:c!}{xs:b!}{i:Nat}(em:g_Lmix [sc,s0!]=some dD!)(hl:0<V_)(hi:(ec!).toNat=i)(ho:os[i]?=some o)(hx:g!<100):
  mB [fK!,dk_,a6_,c9_,dM!,y5,y6,y7]=some (.nx (Ug sc b F! (xs++[AW o m h8_]) j m (AW o m h8_) h8_)):=by
 unfold mB;refine(aZ (fG (fS (bI rfl (bI (d:=s0!) rfl rfl)) em))).trans ?_;have e6:f2 ixD K! vH! [fK!,dk_,a6_,c9_,dM!,eS!,y6,y7]=some o.v:=by
  refine cH (x:=fL!) (y:=.int ec!) rfl (cH (x:=cV!) (y:=.int bb_) rfl s3! (fY a!)) ?_;have h0:0<=m%bb_:=JQ _ a!;have Y:m%bb_<bb_:=JD _ a!;show atI F! ec!=_;unfold atI Eh;rw[HC h0,HC (by rw[GY];exact Y)];show F![(ec!).toNat]?=_;rw[hi,IK,ho];rfl
 refine(aZ (fG e6)).trans ?_;have e7:f2 modD vI! vI_ [fK!,dk_,a6_,c9_,dM!,eS!,H!,y7]=some (.int h8_):=by
  simp[f2,fVar,fC,modD,Av,Co]
 refine(aZ (fG e7)).trans ?_;generalize m / 12%14=w;show sSeq _ _ (Ug sc b F! xs j m o.v w)=_;have li:∀d:D,Nc 3 aj! fM!=some (.nx (Ug sc b F! (xs++[d]) j m d w)):=λd=>b7e (ds:=xs) rfl rfl bf!;have sk:∀{k:Int} {q q2:bg!} {d:D},w≠k->sSeq (Dr s7! q Bj) q2 fM!=q2 fM!:=λ{k q q2 d} h=>aZ (by rw[s8!,HA h]);have tk:∀{k:Int} {f:i_} {q2:bg!} {d d':D},w=k->f fM!=some d'->sSeq (Dr s7! (Bf 6 f) Bj) q2 fM!=q2 (Ug sc b F! xs j m d' w):=λ{k f q2 d d'} h e=>aZ (by rw[s8!,HC h];exact fG e);unfold AW;by_cases c0:w=0
 .rw[HC c0,tk c0 c7d,ee!,ee!,ee!,li]
 .rw[HA c0,sk c0];by_cases c1:w=1
  .rw[HC c1,tk c1 c7c,ee!,ee!,li]
  .rw[HA c1,sk c1];by_cases c2:w=2
   .rw[HC c2,tk c2 c7b,ee!,li]
   .rw[HA c2,sk c2];by_cases c3:w=3
    .rw[HC c3,tk c3 c7a,li]
    .rw[HA c3,sk c3,li]
def a4r(ns:v_)(b:Int){os:c!}(hl:0<V_)(ho:∀o∈os,OpF o/\Xm o/\o.n<=11/\o.tm<=900):∃xs:List D,Fp [bT_,.int b,fL!]=some A_/\g!<=4/\∀d∈xs,Xo d:=by
 obtain⟨m0,em0,_,_⟩:=eX ns (k:=b);have h4:0<=m0%4/\m0%4<4:=by omega
 obtain⟨n4,hn⟩:∃n4:Nat,((n4:Nat):Int)=1+m0%4:=⟨(1+m0%4).toNat,m_⟩
 let P:Nat->Ab->Prop:=λi ρ=>∃(xs:b!) (y4 y5 y6 y7:R!),ρ=s9!/\g!=i/\∀d∈xs,Xo d
 have hrl:(md!).length<=4:=by unfold rangeD;rw[GY,LN];omega
 obtain⟨ρ',e,xs,y4,y5,y6,y7,rfl,hx,hg⟩:=kK (bnd:=Bd 4) (q:=mB) P md! 0
  fM_
  ⟨[],none,none,none,none,rfl,rfl,λd h=>dK!⟩ (by
   rintro j d ρ hd ⟨xs,y4,y5,y6,y7,rfl,hx,hg⟩;have hj:=(HG.mp hd).1;unfold rangeD at hd;rw[IK]at hd;obtain⟨i',c6,rfl⟩:=GX.mp hd;obtain⟨m,em,m1,_⟩:=eX ns (k:=b+1+(i':Nat));have hm0:0<=m%bb_:=JQ _ a!;have zy:m%bb_<bb_:=JD _ a!;have ai:(ec!).toNat<V_:=by omega
   have oo:=ho _ (IZ ai);exact⟨_,_,rfl,c4s (o:=os[(ec!).toNat]) em hl rfl (HU ai) a!,_,_,_,_,_,rfl,cW_,λx kh=>(GS.mp kh).elim (hg x) λz=>by rw[a7!];exact b9d oo.1 oo.2.1 oo.2.2.1 oo.2.2.2⟩)
 refine⟨xs,?_,m_,hg⟩;have er:f2 Ag s_ vF_ fM_=some (.int (n4:Nat)):=by
  rw[hn];exact cH rfl (cH (fS fa_ em0) rfl c4_) rfl
 have hi:iRng vG! fM_=some md!:=by
  have hr:-1000<=(n4:Int)/\(n4:Int)<=100000:=by omega
  simp[iRng,er,hr]
 have hf:Li nn! ad! mB fM_=some (.nx s9!):=by
  unfold Li;rw[hi];exact e
 have hq:Kw tb_=some (.rt A_):=by
  show sSeq iP! (sSeq (Li nn! ad! mB) iR_) _=_;rw[aZ (ρ':=fM_) rfl,aZ hf];rfl
 unfold Fp Bk;rw[ga!];show(match Kw tb_ with|some (.rt d)=>some d|some (.nx _)=>some .non|none=>none)=_;rw[hq]
end
section
variable{t:Bl}{M:Mh}{ρ:Ab}{yy:Int}{a ta wa la lw:yz!}{T W os:List Op}{kl:List Int}{ca:Int->Addr}{o:Op}
abbrev lv(sc:D)(yy:Int)(os:c!)(b:Bool)(a la lw:yz!)(x7 x8 x9 x10 x11 x12:R!):Ab:=[fK!,bk!,a6_,fN!,q_,aR_,bB!,x7,x8,x9,x10,x11,x12]
def BH(t:Bl):WS:=wB_
def b9z{b:Bool}{h:Int}{R:j!}(s:b5!)(lT:a9!<=56)(hR:R (.nx tc_) M):BH t tc_ M R:=by
 have c:=a4z (a5p (i:=5) (ix:=[12]) (ft:=fT np_) (d:=af_) (k:=h) (ρ:=lv sc yy os b a la lw x7 x8 x9 x10 x11 lW_) rfl rfl s.L.t a! λx _=>by
  refine df_;show(sm_).bind (λa=>eqD' a dO_)=_;rw[gY];exact dN _ _)
 rw[GY]at c;have ne:Vn M id! id!=some X!:=by
  show Ed id! id!=_;exact a6y rfl te!
 exact iO (jB (eK (iU (aV (f:=fVar 4) (d:=B_) rfl) (s.A.nob hM1) (aV (f:=fVar 12) (d:=af_) rfl) (nT s.A)) c ne)) hR
def c0a{b:Bool}(s:b5!)(lT:a9!<=56):∀(is:l!) (x12:R!) (R:j!),(∀ik,R (.nx (lv sc yy os b a la lw x7 x8 x9 x10 x11 ik)) M)->
  El (Bd 12) W! (BH t) tg! tf_ M R:=by
 intro is
 induction is with
 |nil=>intro x12 R hR;exact⟨trivial,hR _⟩
 |cons i is ih=>
  intro x12 R hR;refine aE!;show BH t (lv sc yy os b a la lw x7 x8 x9 x10 x11 (some l5!)) M _;exact b9z s lT (ih _ R hR)
def LS.len(s:b5!):a9!<=56:=by
 have h4:=b9q λo ho=>(s.J.sm o (GU _ ho)).1;have n14:∀k,(b0_).length<=14:=λk=>IJ λz=>by
  show"!x";have n:=(s.J.hT.ch k).num _ _ hx;have m:=(pt_).1;have:=(s.J.sm _ (GU _ m)).2;omega
 show"#/"
def c8y{g:WF}{f1 f2 f3 f4:i_}{K:t_}(Y:kM_)(h2:p2!)(h3:th!)(h4:An_)(k:g [b,c,d,e] M K):Ap 4 g Ao! ρ M K:=by unfold Ap Aa Ac;rw[bM Y,c5!,bM h3,bM h4];exact fb!
def Xg(t:Bl):WS:=(Ad ww_
 (Ad wx!
 (Ad ny_
 th_)))
def b4q{b:Bool}{xs:b!}{R:j!}(nd:t.nd)(s:b5!)(hx:∀d∈xs,Xo d)(hl:g!<32)
  (hR:∀M' T' W' bu bv ez fz ik,LS t M' yy a ta wa la lw T' W' bu bv->R (.nx (lv sc yy os b a la lw x7 x8 fO_ ez fz ik)) M'):Xg t (lv sc yy os b a la lw x7 x8 fO_ x10 x11 x12) M R:=by
 unfold Xg;refine fM (c8y (b:=fe_) (c:=bB_) (d:=bj_) (e:=dF_) rfl rfl rfl rfl ?_);refine turn (K:=λv v' M2=>Ad ny_ th_ (lv sc yy os b a la lw x7 x8 fO_ aG! (some v') x12) M2 R) nd s hx hl (λi M' T' W' bu bv s' _ _=>?_) λi M1 h=>?_
 .have e1:fT wx_ ie_=some true:=rfl;have e2:fT ny! ie_=some false:=iF (show Ed N! N!=_ from a6y rfl te!);have hc:He wy_ (fT ny!) ie_=some false:=by
   unfold He By;rw[e1];exact e2
  refine fE (dU hc) ?_;have hi:iRng dm! ie_=some (rangeD 16):=by simp[iRng,fC]
  unfold Bs Hc;rw[hi];exact c0a s' s'.len (List.range 16) x12 R λik=>hR M' T' W' bu bv _ _ ik s'
 .exact fM (wM (a:=B_) (b:=dF_) rfl rfl h)
def c3c{ft:WT}{i:Nat}{f:WE}{q2:WS}{R:j!}(h:e8!)(hf:gY_)(k:q2 bs! M R):Ad (At ft kg! Bm) q2 ρ M R:=by unfold Ad;exact eM h (hf _ k)
def BA(t:Bl):WS:=(Ad wr_
 (Ad ww!
 (Xg t)))
structure Yh(os:c!):Prop where
 l0:0<V_
 l1:V_<32
 op:∀o∈os,OpF o/\Xm o/\o.n<=11/\o.tm<=900
def c5p{b:Bool}{j:Int}(hl:V_<32):∃p:Op->Bool,Pu wv! ti! M (.lst mf_):=by
 refine⟨λo=>fP!&&if!,l8!⟩;have hi:Ct K! ti!=some F!:=jI rfl;unfold Cd Hc;rw[hi];refine dF kB!;refine dS (λd=>match d with|.tup (.int h::.int n::_)=>(h==5)&&(n / 2==bl!%6)|_=>false) id trivial _ _ fr_ ?_
 .obtain⟨o,ho,rfl⟩:=HI.mp hd;refine⟨if_,rfl,l8!,kC!⟩;refine dU ?_ K hK;have e1:fT wu! if_=some fP!:=by
   refine df_;show(fs!).bind (λa=>eqD' a ne!)=_;rw[gY];exact dN _ _
  have e2:fT nx! if_=some if!:=by
   refine iF (cH (x:=.int (o.n / 2)) (y:=.int (bl!%6)) (cH (iR o) rfl rfl) (cH (x:=.int bl!) (y:=.int 6) rfl rfl c4_) fd!)
  unfold fAnd;rw[e1];show(if fP!=true then fT nx! if_ else some false)=_;rw[e2];show(if fP!=true then some if! else some false)=some (fP!&&if!);cases o.h==5<;>rfl
 .rw[PY,QI];exact hK
def c8i{ns:v_}{b:Bool}{j:Int}{R:j!}(nd:t.nd)(ho:Yh os)(s:b5!)
  (hR:∀M' T' W' bu bv xg ez fz ik,LS t M' yy a ta wa la lw T' W' bu bv->R (.nx (lv bw! yy os b a la lw eS_ x8 xg ez fz ik)) M'):BA t tl! M R:=by
 obtain⟨xs,ex,lx,gx⟩:=a4r ns (11+5*j) ho.l0 ho.op;unfold BA;have e9:f1 Fp wr! tl!=some A_:=fS (bI rfl (bI (d:=.int (11+5*j)) rfl jT_)) ex;refine eL (aV e9) ?_;obtain⟨m,em,_,_⟩:=eX ns (k:=62);obtain⟨c,ec⟩:∃c:Bool,fAnd (fT (fVar 3)) (fAnd (fT (f2 ltD (fVar 7) (fC (.int 6)))) (fT (f2 eqD' (f2 modD (f1 g_Lmix (aCons (fVar 0) (aCons (fC (.int 62)) aNil))) (fC (.int 2))) (fC (.int 0))))) (lv (scr ns) yy os b a la lw (some (.int j)) x8 (some (.lst xs)) x10 x11 x12)=some c:=by
  have e1:fT T_ mi!=some b:=rfl;have e2:fT ws_ mi!=some (decide (j<6)):=rfl;have e3:fT wt_ mi!=some (m%2==0):=iF to!;unfold fAnd;rw[e1,e2,e3];cases b with
  |false=>exact to_
  |true=>cases decide (j<6)with
   |false=>exact to_
   |true=>exact I_
 cases c with
 |false=>exact fE ih_ (b4q nd s gx a! λM' T' W' bu bv ez fz ik s'=>hR M' T' W' bu bv _ _ _ _ s')
 |true=>
  obtain⟨p,hp⟩:=c5p (M:=M) (yy:=yy) (a:=a) (la:=la) (lw:=lw) (sc:=bT_) (b:=b) (j:=j) (x8:=x8) (x9:=c9_) (x10:=x10) (x11:=x11) (x12:=x12) ho.l1;refine c3c ih_ hp ?_;show Xg t (lv bw! yy os b a la lw eS_ x8 (some (.lst mf_)) x10 x11 x12) M _;refine b4q nd s kB_ (by rw[GY];exact JO (NA _ _) ho.l1) λM' T' W' bu bv ez fz ik s'=>hR M' T' W' bu bv _ _ _ _ s';obtain⟨o,Y,rfl⟩:=HI.mp hd;have:=ho.op o (JG.mp Y).1;exact .inl ⟨o,this.1,this.2.1,rfl⟩
def lwL{ns:v_}{b:Bool}(nd:t.nd)(ho:Yh os):∀(is:l!) {T W:c!} {kl:v_} {ca:g2_} (x7 x8 x9 x10 x11 x12:R!) (M:Mh) (R:j!),LS t M yy a ta wa la lw T W kl ca->
  (∀M' T' W' bu bv x7' xg ez fz ik,LS t M' yy a ta wa la lw T' W' bu bv->R (.nx (lv bw! yy os b a la lw x7' x8 xg ez fz ik)) M')->
  El (Bd 7) W! (BA t) tg! (lv bw! yy os b a la lw x7 x8 x9 x10 x11 x12) M R:=by
 intro is
 induction is with
 |nil=>intro T W kl ca x7 x8 x9 x10 x11 x12 M R s hR;exact⟨trivial,hR M T W kl ca _ _ _ _ _ s⟩
 |cons i is ih=>
  intro T W kl ca x7 x8 x9 x10 x11 x12 M R s hR;refine aE!;show BA t (lv bw! yy os b a la lw (some l5!) x8 x9 x10 x11 x12) M _;exact c8i nd ho s λM' T' W' bu bv xg ez fz ik s'=>ih _ _ _ _ _ _ M' R s' hR
def c3n:Pu wC! ρ M (.lst (d9_).flatten):=λK hK=>⟨Q_,yX!,hK⟩
def b1q{i:Nat}{q:WS}{R:j!}(k:∀p,M p=none->q lD_ (mup M p bW_) R):Ad (Ai i cF_) q ρ M R:=⟨Q_,k⟩
def b7z{i:Nat}{f:i_}{q:WS}{R:j!}(h:ci_)(k:∀p,M p=none->q lD_ (mup M p (.lst [d])) R):Ad (Ai i (Ht (Aa (wl f) Ac))) q ρ M R:=by unfold Ad Ai Ht Aa Ac;rw[bM h];exact⟨by show 1<=1000;decide,k⟩
def EB(t:Bl):WS:=(Ad wD!
 wF!)
def b7f:∀{n:Nat},Lr [.lst (List.replicate n u_)]=some u_:=λ{n}=>by
 show(Ie mk!).map C5_=_;have e:Ie mk!=some tr_:=by
  induction n with
  |zero=>rfl
  |succ n ih=>
   rw[KR];show(Ie mk!).map (true::·)=_;rw[ih];rfl
 rw[e];show some (D.bl ((tr_).all id))=_;rw[KO.mpr λx hx=>by rw[List.eq_of_mem_replicate hx];rfl]
def c4t{b:Bool}{R:j!}(s:b5!)(hR:mk_):EB t tf_ M R:=by
 unfold EB;have lT:=s.len;refine fM (b7c dT_ c3n (b5n s.A s.J.hT a! λM' fr=>?_));have s':=s.keep fr;have pm:(srt T).Perm T:=cJ T;show Bg _ fS_ M' _;have e1:Pu wE! fS_ M' u_:=by
  have h5:Gi M' [bB_]=some tu!:=by
   show((Jh M' fr!).map λxs=>D.int g!)=_;simp only[Jh,s'.L.t,LF,GY]
  have h8:f1 Bp wD_ fS_=some tu!:=by
   show some (D.int ((ml!).length:Nat))=_;rw[GY,pm.length_eq]
  exact eK (aV h8) (lJ tu_ h5) (by rw[dN,KB])
 have e2:Pu wE_ fS_ M' (.lst (List.replicate T.length u_)):=λK hK=>by
  have hi:Ct aK! fS_=some ml!:=jI rfl;unfold Cd Hc;rw[hi];refine dF sQ_;refine dS ki! (λ_=>.bl true) trivial _ _ fr_ ?_
  .show"!H";have hT:=pm.mem_iff.mp ho;refine⟨[H!,aR_],rfl,l4_,tw!⟩;exact eK (aV (f:=fVar 0) (d:=o.v) rfl) (aV (f:=dP!) (d:=bB_) rfl) ((a7r s'.L.t s.J.hT.op (s.J.hT.op o hT)).trans (by rw[HF hT])) _ hK
  .rw[l9!,JJ];have:(srt T).map ((λ_=>D.bl true)∘Op.v)=List.replicate T.length u_:=by
    rw[<-pm.length_eq];exact List.map_const' ..
   rw[this];exact hK
 refine dG (d:=d1_) p4! (hR M');unfold Km;refine jB e1 _ ?_;rw[A!];exact lJ e2 b7f _ hK
theorem J0:Jn [] [] yy:=⟨.nil,bC_,bC_,bC_,KZ,g0_,g0_,bC_,IF _⟩
def b3g(h:mm!):OpF fU_/\Xm fU_:=by have hh:(fU_).h=yy:=rfl;refine⟨⟨tA!,tz_,(by show(1:Int)<=1000;decide),tz_,(by show(1:Int)<=2000;decide),c3x⟩,⟨tA!,(by show(1:Int)<=14;decide)⟩⟩
theorem J1(h:mm!):Jn ma! [] yy:=by
 have f:=b3g h;have hH:Cv ma!:=by
  have:=Cv.snoc .nil f.1 (o:=own1 yy) rfl λx hx=>by cases hx
  show"#-"
 refine⟨hH,bC_,bC_,bC_,KZ,g0_,λx hx y hy _ n=>?_,sb_,IF _⟩
 .rw[IB]at hx hy;rw[GZ.mp hx,GZ.mp hy]at n;omega
 .rw[IB]at ho;rw[GZ.mp ho];exact f.2
def AZ(t:Bl):WS:=(Ad (Ai 6 cF_)
 (Ad (Bs wq_ (Bd 7) (BA t)) (EB t)))
def b4p{ns:v_}{b:Bool}{R:j!}(nd:t.nd)(ho:Yh os)(J:Jn T [] yy)(hA:Ba t M yy a ta wa [] .non T kl ca)(hL:kW!)(da:¬Ow a ta wa kl ca la)(hR:mk_):
  AZ t tB_ M R:=by
 unfold AZ;refine b1q λlw hw=>?_;have VY:la≠lw:=λz=>by rw[<-z,hL]at hw;cases hw
 have fr:∀b,M b≠none->mup M lw bW_ b=M b:=λb hb=>mup_ne λz=>hb (z▸hw);have s:LS t (mup M lw bW_) yy a ta wa la lw T [] kl ca:=⟨J,hA.keep fr,⟨(mup_ne VY).trans hL,mup_same,VY⟩,da,λz=>hA.lv z hw⟩;obtain⟨m,em,_,_⟩:=eX ns (k:=61);obtain⟨n,hn⟩:∃n:Nat,iRng (fIf (fT (fVar 3)) (fC (.int 7)) (f2 modD (f1 g_Lmix (aCons (fVar 0) (aCons (fC (.int 61)) aNil))) (fC (.int 7)))) (lv (scr ns) yy os b a la lw none none none none none none)=some (rangeD n):=by
  have e1:fT T_ tC_=some b:=rfl;have h0:0<=m%7:=JQ _ b_;have Y:m%7<7:=JD _ b_;have e2:f2 modD wq! iQ! tC_=some (.int (m%7)):=cH (fS fa_ em) rfl c4_;cases b with
  |true=>exact⟨7,by simp[iRng,fIf,e1,fC]⟩
  |false=>
   refine⟨(m%7).toNat,?_⟩;have hr:-1000<=m%7/\m%7<=100000:=by omega
   simp[iRng,fIf,e1,e2,hr]
 refine mL (ρ:=lv bw! yy os b a la lw none none none none none none) hn ?_;refine lwL nd ho nR_ none none none none none none _ _ s λM' T' W' bu bv x7 x9 x10 x11 x12 s'=>?_;exact c4t s' hR
def AY(t:Bl):WS:=(Ad wl_
 (Ad (Ai 5 cF_)
 (Ad (At wm_ (Ad wn!
 (Ad wo_
 wp_)) Bm)
 (AZ t))))
def qE{r:Ab}{ft:aZ!}{p:Op->Bool}(hf:∀o:Op,ft mn!=some (p o)):∀(os:c!),Df G! ft k! (none::r) F!=some mf_
 |[]=>rfl
 |o::os=>by
  have hb:Ax 0 o.v (none::r)=some mn!:=rfl;have hv:fVar 0 mn!=some o.v:=rfl;rw[HD];simp only[Df,hb,KC,hf,hv,qE hf os,LF];cases c:p o with
  |true=>rw[LK c];rfl
  |false=>rw[JT (by simp[c])];rfl
def c8z{g:WF}{f1 f2 f3:i_}{K:t_}(Y:kM_)(h2:p2!)(h3:th!)(k:g [b,c,d] M K):Ap 3 g An! ρ M K:=by unfold Ap Aa Ac;rw[bM Y,c5!,bM h3];exact fb!
def a6a{ft:WT}{q1 q2:WS}{R:j!}(h:e8!)(k:q1 ρ M λr M1=>match r with|.nx aj=>q2 aj M1 R|.rt d=>R af! M1):Ad Bj! q2 ρ M R:=by unfold Ad;exact eM h k
def b4o{ns:v_}{b:Bool}{R:j!}(nd:t.nd)(hy:mm!)(ho:Yh os)(hl:V_<31)(hR:mk_):
  AY t [E_,bk!,a6_,fN!,none,none,none,none,none,none,none,none,none] M R:=by
 unfold AY;refine fM (a9y (yy:=yy) rfl λa ta wa M1 ha hA fr ow=>?_);refine b1q λvb h0=>?_;have z8:∀b,M1 b≠none->mup M1 vb bW_ b=M1 b:=λb hb=>mup_ne λz=>hb (z▸h0);have VZ:=hA.keep z8;obtain⟨m,em,_,_⟩:=eX ns (k:=57);have ec:fT wm! mo!=some (m%2==0):=iF to!;show Ad (At _ _ Bm) (AZ t) mo! (mup M1 vb bW_) _;cases c:m%2==0 with
 |false=>
  rw[c]at ec;exact fE ih_ (b4p nd ho J0 VZ mup_same (λz=>hA.lv z h0) hR)
 |true=>
  rw[c]at ec;refine a6a ih_ ?_;refine tO (c8z (b:=B_) (c:=cX_) (d:=.non) rfl rfl rfl (b8d VZ λM2 w9 xa v k8=>?_));have e5:Au wo! mo!=some (fU_).v:=rfl;refine b7z e5 λla WB=>?_;have gj:∀b,M2 b≠none->mup M2 la tE_ b=M2 b:=λb hb=>mup_ne λz=>hb (z▸WB);have hA3:=k8.keep gj;have hf:∀o:Op,fT nw! (some o.v::[bk!])=some (! c8_):=λo=>by
   refine df_;show(fs!).bind (λa=>Ed a fc!)=_;rw[gY];show Ed cr! fc!=_;unfold Ed;rw[rD];simp[Aw,dep]
  have ef:Ff 1 [1] iO! G! (fT nw!) k! tB_=some tF!:=by
   show(if(F!).length<=big then Option.map D.lst (Df _ _ _ [none,bk!] F!)else none)=_;rw[HC bX_,qE hf os];rfl
  have px:Gk tI! fr! tF!=some tH!:=by
   have ll:=NA (λo:Op=>! c8_) os;simp only[Gk,mup_same];rw[HC (by simp only[GY,HJ,QH];unfold big;omega)];rfl
  unfold Ai;refine eK tu_ (aV ef) px _ ?_;show AZ t [E_,bk!,some tH!,fN!,q_,aR_,none,none,none,none,none,none,none] tI! _;have ll:=NA (λo:Op=>! c8_) os;refine b4p nd ⟨Nat.succ_pos _,by rw[HJ];omega,λo h=>?_⟩ (J1 hy) hA3 mup_same (λz=>k8.lv z WB) hR;obtain z|z:=GT.mp h
  .rw[z];exact⟨(b3g hy).1,(b3g hy).2,by show(1:Int)<=11;decide,by show(1:Int)<=900;decide⟩
  .exact ho.op o (JG.mp z).1
end
section
variable{t:Bl}{M:Mh}{ρ:Ab}{os:List Op}{o:Op}
def c4a(o:Op):ixD o.v b7!=some o.d:=by simp[Op.v,ixD,atI,Eh]
def ED:WE:=Cd 1 [2] wj_ G! iE! wk_
def FH(t:Bl):WS:=(Ad wg!
 (Ad wi!
 (Ad wj!
 (Ad (At (Dg iX_) (Ai 2 ED) Bm) (AY t)))))
def b2d:Vi t=FH t:=rfl
def b9o{rs:Ab}{K:t_}(ho:Yh os)(hK:∀vc,Yh vc->vc.length<31->K tL_ M):ED tM_ M K:=by
 have hl:=ho.l0;have h:∀j:Int,∃o∈os,atI F! (j%bb_)=some o.v:=λj=>by
  obtain⟨x,e,hx⟩:=tZ (xs:=os.map Op.v) (i:=j%bb_) ov_ (by rw[GY];exact JD _ a!);obtain⟨o,hm,rfl⟩:=HI.mp hx;exact⟨o,hm,e⟩
 obtain⟨pk,hp⟩:∃pk:Int->Op,∀j,pk j∈os/\atI (os.map Op.v) (j%(V_:Nat))=some (pk j).v:=⟨λj=>choose (h j),λj=>choose_spec (h j)⟩
 let lo:Int->Op:=λj=>⟨5,j+1,2*j+2,(pk j).d⟩
 have hi:iRng nu! tM_=some (rangeD 11):=by simp[iRng,fC]
 unfold ED Cd Hc;rw[hi];refine dF ⟨by unfold rangeD big;simp,?_⟩;refine dS ki! mv_ trivial _ _ fr_ ?_
 .unfold rangeD at hd;obtain⟨j,hj,rfl⟩:=HI.mp hd;have ur:=NP.mp hj;refine⟨tQ!,rfl,l4_,tw!⟩;have e:Au wk! tQ!=some (lo j).v:=by
   refine b1l (ds:=[.int 5,.int ((j:Nat)+1),.int (2*(j:Nat)+2),(pk j).d]) (bI rfl (bI rfl (bI (cH (x:=.int (2*(j:Nat))) rfl rfl rfl) (bI (cH (x:=(pk j).v) (cH (x:=fL!) (y:=.int ((j:Int)%bb_)) rfl (cH (x:=.int (j:Nat)) (y:=.int bb_) rfl s3! (fY a!)) (hp j).2) rfl (c4a _)) rfl)))) rfl
  rw[bM e];exact hK
 .have e2:(tQ_).map mv_=((List.range 11).map λj:Nat=>lo j).map Op.v:=by
   rw[l9!];unfold rangeD;rw[JJ,JJ];rfl
  show K (.lst ((tQ_).map mv_)) M;rw[e2];refine hK _ ⟨R_,R_,λo h=>?_⟩ d_;obtain⟨j,hj,rfl⟩:=HI.mp h;have ur:=NP.mp hj;have hd:=(ho.op _ (hp j).1).1.dg;exact⟨⟨⟨by show(0:Int)<=5;decide,by show(5:Int)<16;decide⟩,by show 1<=2*(j:Int)+2;omega,by show 2*(j:Int)+2<=1000;omega,by show 1<=(j:Int)+1;omega,by show(j:Int)+1<=2000;omega,hd⟩,⟨.inr g1!,by show(j:Int)+1<=14;omega⟩,by show(j:Int)+1<=11;omega,by show 2*(j:Int)+2<=900;omega⟩
def c3y{N:Nat}(h0:0<N)(Y:N<=10)(hl:V_=N)(hO:Cv os)(ht:∀x∈os,x.tm<=3*N)(cg:∀x∈os,x.h=0\/x.h=5\/x.h=15):Yh os:=
 ⟨by omega,by omega,λo ho=>by
  have hn:o.n<=N:=by
   have hm:o∈hs os o.h:=eG.mpr pt!;obtain⟨i,e⟩:=OK.mp hm;have:=(hO.ch o.h).num i o e;have ai:i<(pe!).length:=by
    obtain c|c:=KN i (pe!).length
    .exact c
    .rw[KD c]at e;cases e
   have:=zE os o.h;omega
  have:=ht o ho;refine⟨hO.op o ho,⟨?_,m_⟩,m_,m_⟩;obtain z|z|z:=cg o ho
  .exact dE!
  .exact .inr g8_
  .exact .inr (.inr du_)⟩
def b4w{ns:v_}(nd:t.nd):Yc t p3_ M0 (λd _=>d=.bl true):=by
 obtain⟨m,em,m0,_⟩:=eX ns (k:=60);obtain⟨m9,em9,m90,_⟩:=eX ns (k:=59);obtain⟨m8,em8,m80,_⟩:=eX ns (k:=58);have hN0:0<=m%10:=JQ _ b_;have hN1:m%10<10:=JD _ b_;obtain⟨N,hN⟩:∃N:Nat,(N:Int)=1+m%10:=⟨(1+m%10).toNat,m_⟩;obtain⟨os,ew,hl,hO,hw,cg⟩:=a8l ns 0 N a!;have ho:Yh os:=c3y a! a! hl hO hw cg;obtain⟨yy,hy,ey⟩:∃yy:Int,(yy=0\/yy=3)/\ixD (.lst [.int 0,.int 3]) (.int (m9%2))=some (.int yy):=by
  have h:m9%2=0\/m9%2=1:=by omega
  obtain z|z:=h<;>rw[z]
  .exact⟨0,dY_,rfl⟩
  .exact⟨3,jc_,rfl⟩
 refine p!;rw[b2d];unfold FH;show Ad (Ai 1 _) _ [E_,none,none,none,none,none,none,none,none,none,none,none,none] M0 _;refine fM (aV (d:=fe_) (cH (y:=.int (m9%2)) rfl (cH (fS fa_ em9) rfl c4_) ey) _ ?_);refine fM (aV (d:=fL!) (fS (ds:=[bT_,ax_,.int N]) (bI rfl (bI rfl (bI (cH rfl tn_ (by rw[hN];rfl)) rfl))) ew) _ ?_);refine fM (aV (d:=.bl (m8%3==0)) (cH (cH (fS fa_ em8) rfl c4_) rfl fd!) _ ?_);show Ad (At _ _ Bm) (AY t) [E_,bk!,a6_,some (.bl (m8%3==0)),none,none,none,none,none,none,none,none,none] M0 _;cases m8%3==0 with
 |false=>exact fE tZ! (b4o nd hy ho a! λ_=>rfl)
 |true=>
  refine a6a tZ! ?_;unfold Ai;refine b9o ho λvc h2 SV=>?_;show AY t [E_,bk!,some tL_,some u_,none,none,none,none,none,none,none,none,none] M0 _;exact b4o nd hy h2 SV λ_=>rfl
end
end K12
namespace K12
open PySem L2 DL
section
def kD(T:h!):Ok P w K mg base 1 "is_whole" z! (Dx):=
 dX T.D3 h_ (λhr _=>(aU (bL (iJ t0! (iJ t0_ (fU (eY sJ sL (cG b7a c6k rfl T.P7 c6p ca_) (aR c3z c4e aB aB) n!)))))))
end
section
def iA(T:h!):Ok P w K mg base 2 "is_from_one" z! (Ca):=
 dX T.D5 h_ (λhr _=>(aU (bL (iJ t3_ (fU (eY c2b c2c y! aB n!))))))
end
section
def kE(T:h!):Ok P w K mg base 2 "is_below" mc! (Es):=
 dX T.D4 h_ (λhr _=>(aU (bL (iJ t3_ (fU (a2t kA kC sJ sL aB y! U!))))))
end
section
def hV(T:h!):Ok P w K mg base 3 "is_name" z! (Ch):=
 dX T.D6 h_ (λhr _=>(aS mC! (aU (bL (iJ (aO (kE T) f_ rfl (aC aw! (aC (gL T.R5 rfl) aK)) as!) (fU t7!))))))
end
section
def jP(T:h!):Ok P w K mg base 4 "is_sign_name" z! (Cy):=
 dX T.D7 h_ (λhr _=>(aS mC! (aU (bL (iJ t7_ (fU (aO (kE T) f_ rfl (aC aw! (aC mE! aK)) as!)))))))
end
section
def a4g(T:h!):Ok P w K mg base 4 "is_item" z! (Fo):=
 dX T.D8 h_ (λhr _=>(aU (bL (wJ t8_ (wJ t9! (fU t9!))))))
end
section
def uH(T:h!):Ok P w K mg base 4 "is_sibling" z! (Ee):=
 dX T.D9 h_ (λhr _=>(aU (bL (wJ ua! (fU t8_)))))
end
section
def xJ(T:h!):Ok P w K mg base 5 "is_behind" z! (Ew):=
 dX T.E1 h_ (λhr _=>(aU (bL (wJ ua! (fU (aO (jP T) f_ rfl ca_ ar_))))))
end
section
def a4f(T:h!):Ok P w K mg base 1 "is_sign" fO! (Fm):=
 dX T.E2 h_ (λhr _=>(aU (bL (iJ (a2t kA kC kA kC bX y! bX) (fU (eY vN vP (cG b6x c6j rfl T.Q7 c6n ca_) (gL T.R8 rfl) n!))))))
end
section
def a4e(T:h!):Ok P w K mg base 2 "is_text" z! (Hz):=
 dX T.E3 h_ (λhr _=>(aS (fD (qK (qA (gQ (eS (iI yZ rfl T.Q3 rfl T.R0 bO a5r y!))) (kS (gQ (b6j kA kC kA kC aB fZ! mE!))))) eo_ cP) (aU (bL (cG iv! zU rfl T.P8 zV (aC (jM (NL:=fO!) (NF:=[]) (ix:=[]) rfl b_ k_ (cF (sc:=Ae Nl) rfl k_) Cs.nil b_ rfl (c5z y!) (λ_ _ _ _ _=>bC (i:=0) (show(fO!:List Str).Nodup by decide+kernel) rfl d!) aw_ f0_ (λ_ _ _ _ _=>(aO (a4f T) f_ rfl ca_ ar_))) aK))))))
end
section
def a1c(T:h!):Ok P w K mg base 3 "is_place" z! (Gy):=
 dX T.E4 h_ (λhr _=>(aU (bL (aO (kE T) f_ rfl (aC y! (aC ug_ aK)) as!))))
end
section
def gS{g:aZ_}{ps:D!}{k:Nat}(h:Ok P w K mg base k x ps g)(hm:mg x=some a0!)(hp:O!=1)(hk:k<=5):∃fd ps,O!=1/\Em P w K mg base Ng 5 af fd ps (Wy K ps.length g)/\Ec K fd ps []/\W.keepIn K a0!=true:=by obtain⟨f',fd,Y,h2,h3,h4⟩:=h;rw[hm]at h3;cases h3;exact⟨fd,ps,hp,Y.mono hk,h2,h4⟩
end
section
def c0e(T:h!):Yi P w K mg base 5 1 (Jd t):=by
 intro af g e;unfold Jd at e;show"!6"
 .show"!8";exact gS (a4g T) T.S0 rfl b_
 show"!6"
 .show"!8";exact gS (uH T) T.S3 rfl b_
 show"!6"
 .show"!8";exact gS (xJ T) T.S4 rfl b_
 show"!6"
 .show"!8";exact gS (a4e T) T.S5 rfl b_
 show"!6"
 .show"!8";exact gS (jP T) T.S6 rfl b_
 show"!6"
 .show"!8";exact gS (iA T) T.S7 rfl b_
 show"!6"
 .show"!8";exact gS (a1c T) T.S8 rfl b_
 show"!6"
 .show"!8";exact gS (kD T) T.S9 rfl b_
 show"!6"
 .show"!8";exact gS (hV T) T.T0 rfl b_
 cases e
end
section
def fO(T:h!):Et P w K mg base 1 t.B5 "have" mJ! eq!:=
 dA T.T2 T.K7 h_ (λhr _=>(aI (bW (fR cB lY rfl T.Q4 dJ (aF (nH w! dq! r_ (aD (zO aK)) cc!) aP)))))
end
section
def a4j(T:h!):Uk P w K mg base 1 "Hand" t.B5 mI! (Kf t):=
 xL T.K6 h_ (λhr _=>(aE (fP T.T2 T.V9 n_ r_) (aE (fP T.T2 T.W3 n_ gF) (aE (fP T.T2 T.W4 n_ iw!) uj_))))
end
section
def b3n(T:h!):Ok P w K mg base 1 "_law_cell" f6! (Lp):=
 dX T.O0 h_ (λhr _=>(aS (fD (b6i y!) ul_ cP) (aU (bL aB))))
end
section
def dL(T:h!):Ok P w K mg base 2 "_law_mix" f6! (g_Lmix):=
 dX T.O3 h_ (λhr nd=>(aS (dH (i:=2) nd rfl d! (aR cM cN (aR aL bD (aO (b3n T) f_ rfl xm! as!) (aR jZ kB aB iy_)) aB)) (aS (dH (i:=2) nd rfl d! (aR cM cN (aR jZ kB aL! aB) aB)) (aU (bL (aR cM cN (aR aL bD (aR jZ kB (aR gD gE aL! aB) aB) aL!) aB))))))
end
section
def a9p(T:h!):Ok P w K mg base 1 "_law_items" ey_ (Ib):=
 dX T.O5 h_ (λhr _=>(aU (bL (aR aL bD (aR aL bD (iH (n:=8) rfl) (jM (NL:=bK!) (NF:=[]) (ix:=[]) rfl b_ k_ (cF (sc:=Ae Ph) rfl k_) Cs.nil b_ rfl (eJ y!) uq_ aw_ (λ_ _ _ _ _=>c1z (bG P_ bQ mN! bX n!)) ur_)) (iH (n:=12) rfl)))))
end
section
def a9o(T:h!):Ok P w K mg base 1 "_law_signs" ey_ (Ju):=
 dX T.O6 h_ (λhr nd=>(aS (pL (i:=1) nd rfl d! (aC dC (aC mO_ aK))) (aS (zL IP rfl (eJ y!) nd rfl d! (aU (fD (bG P_ bQ iB_ bX n!) (aU (zL IP rfl (gK rfl T.Q8 (cG cB eZ rfl T.Q4 dJ (aC iB_ aK))) nd rfl d! (aU (pM (i:=1) b_ (dI (aC dr! (aC dr! mP_))))))) cP))) (tR (aU (bL U!))))))
end
section
def b3l(T:h!):Ok P w K mg base 1 "_law_text" [bM_,f7!] (Ln):=
 dX T.O7 h_ (λhr nd=>(aS (dH (i:=2) nd rfl at! bX) (aU (bL (c0w bX (jM (NL:=[aW_]) (NF:=[bM_,m6_]) (ix:=[0,2]) rfl b_ k_ (cF (sc:=Ae Qy) rfl k_) (Cs.cons (j:=0) mR_) b_ rfl (gK rfl T.Q8 (aR aL bD aB (aR cM cN y! U!))) (λ_ _ _ _ _=>bC (i:=0) (show([aW_,bM_,m6_]:List Str).Nodup by decide+kernel) rfl d!) aw_ f0_ (λ_ _ _ _ _=>(aN aJ aM aL! (aR cM cN (aR gD gE U! (aR aL bD aB uz_)) aB) q!))))))))
end
section
def iW(T:h!):Ok P w K mg base 1 "_law_pick" m7! (Cp):=
 dX T.O8 h_ (λhr _=>ul_)
end
section
def b3m(T:h!):Ok P w K mg base 3 "_law_deed" wH_ (Im):=
 dX T.O9 h_ (λhr nd=>(aS (dH (i:=4) nd rfl d! uD!) (aS (dH (i:=5) nd rfl d! (aO (a9p T) f_ rfl es_ ar_)) (aS (dH (i:=6) nd rfl d! (aO f3_ f_ rfl (aC (aR aL bD (cU cJ! cb_ dP) (cU cJ! dP cb_)) f4!) as!)) (aS (dH (i:=7) nd rfl d! (aO f3_ f_ rfl (aC (aR aL bD cJ! mT_) f4!) as!)) (aS (fD (eS (iI yZ rfl T.Q3 rfl T.R0 bO a5r cd!)) (aU (dH (i:=7) nd rfl d! dC)) cP) (aS (dH (i:=8) nd rfl d! (iH (n:=19) rfl)) (aS (dH (i:=9) nd rfl d! (aN aJ aM bL_ uH_ q!)) (aS (fD f4_ (aU (bL (dI (aC bd_ uK_)))) cP) (aS (fD f4_ (aU (bL (dI (aC bd_ (aC aL_ uK_))))) cP) (aS (fD f4_ (aU (bL (dI (aC bd_ (aC aL_ aK))))) cP) (aS (dH (i:=10) nd rfl d! (aO f3_ f_ rfl (aC (aO (a9o T) f_ rfl es_ ar_) f4!) as!)) (aS (fD f4_ (aU (bL (dI (aC bd_ (aC aL_ (aC et! (aC (aO (b3l T) f_ rfl (aC uE! mP_) as!) aK))))))) cP) (aS (fD (qK (tP f4_ (rG (bG qP qQ et! dC n!)))) (aU (bL (dI (aC bd_ (aC aL_ (aC et! (aC (aR aL bD aB (aR cM cN uP_ (aR a3z a4k aB mU_))) aK))))))) cP) (aS (fD (bG a9j c7y bd_ mT_ rfl) (aU (bL (dI (aC bX (aC aL_ (aC uR! (aC (aR a3z a4k uR! aB) aK))))))) cP) (aS (dH (i:=11) nd rfl d! (aR aL bD (jM (NL:=bK!) (NF:=[]) (ix:=[]) rfl b_ k_ (cF (sc:=Ae Ra) rfl k_) Cs.nil b_ rfl mV_ uq_ aw_ f0_ ur_) (zO (aC (dI (aC aB (aC (aR aL bD aB uH_) aK))) aK)))) (aU (bL (dI (aC bd_ (aC (aO f3_ f_ rfl (aC f5! f4!) as!) aK)))))))))))))))))))))
end
section
def a4i(T:h!):Ou P w K mg base 1 "_law_settle" [cD!,ed!] (Ke):=
 eF T.P3 h_ (λhr nd=>(aE mW_ (aE (eQ IP rfl mX_ et_ eu! (aI (eQ IP rfl (fQ (b0a oA c1m rfl T.Q5 a8e bM!)) f5_ ev! (aI (dM (fX P_ eu_ mY_ (nF aL gU ae! (fR cB lY rfl T.Q4 dJ (aF (jE (NL:=[mY!]) (NF:=bK!) (ix:=[4]) rfl b_ k_ (cF (sc:=Ae Nt) rfl k_) uV_ b_ rfl (fQ n_) uW! aw_ uX! ev_) aP))) n!) (aE (cK (a7c w! r_ U_)) (aE (cK (nI n_ U_)) (aI (bA (i:=2) nd rfl d! (aD (aR aL bD aL! aB)))))) bV))))) dt_)))
end
section
def b8z(T:h!):Ou P w K mg base 2 "_law_due" wI_ (Ml):=
 eF T.P5 h_ (λhr nd=>(aE (eQ IP rfl mZ_ f5_ ev! (aI (dM (fV (qK (qA (bG xH xN cd_ dC n!) (kS (bG sJ sL dt! aB n!))))) m2! bV))) (aE (bA (i:=5) nd rfl d! gF) (aE (eQ IP rfl (fQ (b9l r_ Z!)) f5_ ev! u1!) (aE (bA (i:=6) nd rfl d! iH_) (aE (qW (i:=7) (NL:=bK!) (NF:=[ec_]) (ix:=[0]) nd rfl d! rfl b_ k_ u2! m3! b_ rfl (fQ r_) u2_ aw_ u3! (λ_ _ _ _ _=>m5_)) (aE (eQ IP rfl mZ_ f5_ ev! (aE (bA (i:=6) nd rfl d! (b4j (aD aL_) (b4j (jF ey! b3j (nH w! bq_ u0_ U_ cc!) U_ n!) (sW (aD (iJ (eY P_ bQ dt! y! n!) (fU (eY a6u a6w dt! (cG cB eZ rfl T.Q4 dJ (aC cd! aK)) n!)))))))) u1!)) (aE (dM (fV (eS aL_)) m2! bV) (aE (eQ IP rfl (yA bq_) (bC (i:=8) nd rfl d!) (cL 8) (aI (eQ IP rfl (yA bq_) (bC (i:=10) nd rfl d!) (cL 10) (aI (dM (b9f (pA (fV (bG P_ bQ u5! mU_ n!)) (pA (fV (bG sJ sL u5! mU_ n!)) (qV (fX c2b (Gg.m c2c) (fA ae_ dQ (fA ae_ dQ bq_ iK! q!) ae! q!) (fA ae_ dQ (fA ae_ dQ bq_ (aD et!) q!) ae! q!) n!))))) m2! bV))))) (aE (bA (i:=9) nd rfl d! ae!) (aE (eQ IP rfl mZ_ f5_ ev! (aE (bA (i:=11) nd rfl d! (fR cB lY rfl T.Q4 dJ (aF (jE (NL:=[mY!]) (NF:=bK!) (ix:=[4]) rfl b_ k_ u2! uV_ b_ rfl (fQ r_) uW! aw_ uX! ev_) aP))) (aI (dM (fV (bG P_ bQ dt! (aR aL bD f5! aB) n!)) (aE (bA (i:=9) nd rfl d! (aD (aR aL bD bd_ aB))) (aE (cK (nI r_ U_)) (aI (bA (i:=9) nd rfl d! (nF aL gU m8! (bR (a4i T) f_ rfl u8!)))))) (aI (dM (b9f (pA (fV (bG a6u a6w dt! f5! n!)) (pA vb_ (qV (fX sJ (Gg.m sL) (fR cB lY rfl T.Q4 dJ f7_) ae! n!))))) (aI (cK (nI Z! U_))) bV)))))) (aI (bW m8!)))))))))))))
end
section
def a1d(T:h!):Ok P w K mg base 3 "_law_message" wJ! (Fp):=
 dX T.P4 h_ (λhr nd=>(aS vf! (aS (zL IP rfl (gK rfl T.Q8 (aR aL bD aB (aR cM cN uD! aB))) nd rfl d! (aS (dH (i:=5) nd rfl d! (aO f2_ f_ rfl (aC y! (aC (aR aL bD iy_ cd_) aK)) as!)) (aS (dH (i:=6) nd rfl d! (aN aJ aM aL! (aR cM cN cJ! vg_) q!)) (aS (dH (i:=7) nd rfl d! nb_) (aS (fD iM! (aU (dH (i:=6) nd rfl d! (aR aL bD vh_ (iH (n:=11) rfl)))) cP) (aS (fD iM! (aU (dH (i:=6) nd rfl d! (aR aL bD (aR aL bD vh_ (dI (aC (aR aL bD nc_ nb_) aK))) nd_))) cP) (aS (fD iM! (aU (dH (i:=6) nd rfl d! (aN aJ aM (zO (aC dC (aC (aR aL bD (dI (aC nc! iM_)) nd_) aK))) nb_ q!))) cP) (aS (fD iM! (aU (dH (i:=6) nd rfl d! (aR aL bD (dI (aC nc! (aC nc_ (aC nc_ aK)))) nd_))) cP) (aU (pM (i:=3) b_ aL_)))))))))) vn!)))
end
section
def xK(T:h!):Ok P w K mg base 6 "are_parts" mh_ (Fz t):=
 dX T.E5 h_ (λhr _=>(aS (fD (bG vN vP fZ! vo! n!) eo_ cP) (aU (bL (cG iv! zU rfl T.P8 zV (aC (jM (NL:=vp!) (NF:=[]) (ix:=[]) rfl b_ k_ (cF (sc:=Ae Lg) rfl k_) Cs.nil b_ rfl (c5y rfl T.R4 c6m U! y!) (λ_ _ _ _ _=>b2t rfl (mP (bC (i:=0) vp_ rfl d!) (mP (bC (i:=1) vp_ rfl d!) a6p))) (c0c 0 1) f0_ (λ_ _ _ _ _=>(b6p (j:=0) (n:=1) (c0e T) f_ ix_ ar_))) aK))))))
end
section
def a4h(T:h!):Ok P w K mg base 7 "is_deed" z! (Go t):=
 dX T.E6 h_ (λhr _=>(aS (fD (qK (qA t6! (kS (bG P_ bQ fZ! aB n!)))) eo_ cP) (aS (fD (qK (qA (gQ (eS (iI yZ rfl T.Q3 rfl T.R0 bO a5r aw!))) (kS (b0o vt! rfl aw!)))) eo_ cP) (aS (fD (gQ (eS (aO (xK T) f_ rfl (aC (cU y! cb_ dP) (aC (c0y vt! rfl aw! q!) aK)) as!))) eo_ cP) (aU (bL (wJ (eY vN vP aw! bX n!) (fU (eY kA kC (aR aL bD mN! aw!) mE! n!)))))))))
end
section
def qH(T:h!):Ok P w K mg base 8 "is_operation" z! (Bh t):=
 dX T.E7 h_ (λhr _=>(aS mC! (aU (bL (iJ t7_ (iJ t7! (fU (aO (a4h T) f_ rfl mD! ar_))))))))
end
section
def mV(T:h!):Ou P w K mg base 2 "was_taken" bq! (Ev t):=
 eF T.L4 h_ (λhr _=>(aI (bW (jF kA (Gg.m kC) iQ_ vv_ n!))))
end
section
def mT(T:h!):Vx P w K mg base 3 "not_yet_taken" dr_ (Fk t):=
 oX (q:=Hw t) T.L7 h_ (λhr hX nd=>(fF (b3x ni_) (fF (b3y hX a7d rfl (fQ (nF aL gU eC_ r_)) et_ eu! (λM0 G0 F0 hX=>(fF (b3x nj_) (fF (vU (gM (bR (mV T) f_ rfl vz_)) (sS (aI (bA (i:=5) nd rfl d! (fA ae_ dQ (fA ae_ dQ dq! mY_ q!) (aD (aR a3z a4k dt! aB)) q!)))) (eV (vU (fX P_ eu_ mY_ nk! n!) vB_ (sS (aI (bA (i:=5) nd rfl d! (vW w! Z! U_ bO_ cc!))))))) (eV (vU (fV (bG ey! xM cJ! bK_ n!)) vB_ iS!)))))) (sS dt_))))
end
section
def mW(T:h!):Ou P w K mg base 2 "last_time" mM_ (Dw t):=
 eF T.L6 h_ (λhr _=>(aE (dM (fX P_ eu_ (cE (fO T) f_ n_ bM!) ae! n!) vC! bV) (aI (bW (fA ae_ dQ (fA ae_ dQ (fA ae_ dQ dq! r_ q!) u0! q!) ae! q!)))))
end
section
def qG(T:h!):Vx P w K mg base 3 "check_times" [M_,iC!] (Gx t):=
 oX (q:=Ji t) T.L8 h_ (λhr hX nd=>(fF (b3x ni_) (eV (b3y hX a7d rfl (fQ (fR (uS rfl) b6w rfl T.Q9 wO bM!)) et_ eu! (λM0 G0 F0 hX=>(fF (b3x (bA (i:=4) nd rfl d! (fA ae_ dQ (fA ae_ dQ r_ bO_ q!) ae! q!))) (fF (vU (fX kA (Gg.m kC) U_ (nH w! Z! iT! (bR (mW T) f_ rfl (aF n_ (aF iT! aP))) cc!) n!) (eV (kH hX T.U1 hr.hd rfl T.T7 (yB (a5f (c0j (i:=3) hr rfl d! b_ nk_))))) iS!) (sS (aI (eA w! Z! iT! U_))))))))))
end
section
def mU(T:h!):Vx P w K mg base 9 "check_message" dr_ (Cw t):=
 oX (q:=Hx t) T.L9 h_ (λhr hX _=>(fF (vU (fV (gQ (eS (cG iv! zU rfl T.P8 zV (aC (jM (NL:=z!) (NF:=[]) (ix:=[]) rfl b_ k_ (cF (sc:=Ae Hu) rfl k_) Cs.nil b_ rfl (eJ U!) (λ_ _ _ _ _=>bC (i:=0) (show(z!:List Str).Nodup by decide+kernel) rfl d!) aw_ f0_ (λ_ _ _ _ _=>(aO (qH T) f_ rfl ca_ ar_))) aK))))) (eV (kH hX T.U0 hr.hd rfl T.T6 cN_)) iS!) (eV (xV (b3z hX (qG T) f_ rfl (a8g (c8r n_) (a8g (qT hX (mT T) f_ rfl dv!) (c9a aP))))))))
end
section
def lR(T:h!):Ou P w K mg base 2 "is_next" bq! (Fn t):=
 eF T.L5 h_ (λhr _=>(aI (bW (jF P_ eu_ iQ_ (nF aL gU vv_ ae!) n!))))
end
section
def oV(T:h!):Ou P w K mg base 1 "accept" bq! (Gz t):=
 eF T.M9 h_ (λhr _=>(aE (cK (nI (vW w! dq! iQ_ iw! cc!) r_)) uj_))
end
section
def mY(T:h!):Ou P w K mg base 3 "accept_waiting" bd! (Cz t):=
 eF T.N0 h_ (λhr nd=>(aE (bA (i:=1) nd rfl d! ae!) (aE vO_ (aE (a1k IP (fV (bG a6u a6w vg_ aB n!)) (aE (cK (a7c w! eC_ eD!)) (aE (cK (bR (oV T) f_ rfl (aF n_ (aF eD! aP)))) (aE (b4d (i:=1) nd rfl d! ae!) (aI vO_))))) nn_))))
end
section
def a4d(T:h!):Ou P w K mg base 4 "receive" bq! (Kd t):=
 eF T.N3 h_ (λhr nd=>(aE (dM (gM (bR (lR T) f_ rfl dv!)) (aE (cK (bR (oV T) f_ rfl dv!)) (aI (bW (nF aL gU ae! (bR (mY T) f_ rfl dv_))))) bV) (aE (bA (i:=2) nd rfl d! (b4j (bR (mV T) f_ rfl dv!) (sW (jF gd! lQ r_ eC_ rfl)))) (aE (dM (b9f (pA (fV (gQ (eS aL!))) (qV (fX sJ (Gg.m sL) (fR cB lY rfl T.Q4 dJ (aF eC_ aP)) (aD (gL T.R9 rfl)) n!)))) (aI (cK (nI eC_ r_))) bV) vC!))))
end
section
def b3k(T:h!):Vx P w K mg base 10 "take" dr_ (Kb t):=
 oX (q:=Tg t) T.N4 h_ (λhr hX nd=>(fF (xV (qT hX (mU T) f_ rfl dv!)) (sS (aE mW_ (aE (eQ IP rfl (lS (eJ U!)) et_ eu! (aI (b4d (i:=2) nd rfl d! (bR (a4d T) f_ rfl vz_)))) dt_)))))
end
section
def b8y(T:h!):Ou P w K mg base 11 "_law_try" [h9!,ed_] (Om t):=
 eF T.P1 h_ (λhr nd=>(aE mW_ (aE (c4p (ie:=3) (ix:=2) (L:=_) ⟨rfl,rfl,λ_=>hr.hd,nd,rfl,rfl,Q_,rfl,rfl,rfl,T.T5,T.U4⟩ (a5c rfl rfl rfl T.Q3 bO rfl T.T6 (xQ T.V0 (xQ T.U8 a4o)) (a5c rfl rfl rfl T.Q3 bO rfl T.T9 (xQ T.U9 a4o) (a5c rfl rfl rfl T.Q3 bO rfl T.T7 a4o c8p))) (c9m (xA T.U5 (xA T.U7 (xA T.U6 c3f)))) (λpn f M0 G0 F0 E hX=>(eV (c4m (i:=2) nd rfl d! (qT hX (b3k T) f_ rfl dv!))))) dt_)))
end
section
def a9n(T:h!):Ok P w K mg base 1 "_law_whole" [dl!] (Ia):=
 dX T.O4 h_ (λhr _=>(aU (bL (iJ t0! (fU t0_)))))
end
section
def a9m(T:h!):Ok P w K mg base 4 "_law_world" wI! (Jt):=
 dX T.P0 h_ (λhr nd=>(aS vf! (aS (pL (i:=4) nd rfl d! v3_) (aS (pL (i:=5) nd rfl d! v3_) (aS (zL IP rfl (gK rfl T.Q8 aL!) nd rfl d! (aS (dH (i:=7) nd rfl d! (aO f2_ f_ rfl (aC y! (aC v5! aK)) as!)) (aS (dH (i:=8) nd rfl d! (aR cM cN cd! aB)) (aS (b6k (i:=4) b_ bL_ (aR aL bD v7_ aB)) (aS (b6k (i:=5) b_ bL_ (aR aL bD (aR aL bD v8! aB) (aR cM cN (aR gD gE cd! aB) aB))) (aS (dH (i:=9) nd rfl d! (c0z (aO (b3m T) f_ rfl (aC y! (aC (aR aL bD v5! aB) (aC bK_ iM_))) (aG ns!)))) (aU (pM (i:=3) b_ (dI (aC (aN aJ aM mO_ bL_ q!) (aC v7_ (aC v8! (aC bd_ aK))))))))))))) vn!)))))
end
section
def iB(T:h!):Et P w K mg base 1 t.B6 "has" bo! fP_:=
 dA T.T3 T.G7 h_ (λhr _=>(aI (bW (jF gd! lQ r_ gg_ rfl))))
end
section
def dW(T:h!):Et P w K mg base 1 t.B6 "has_item" bo! (Bx t):=
 dA T.T3 T.G8 h_ (λhr _=>(aI (bW (jF gd! lQ r_ iW_ rfl))))
end
section
def kG(T:h!):Et P w K mg base 1 t.B6 "is_within" mq! (Ej t):=
 dA T.T3 T.G9 h_ (λhr nd=>(aE (a1k IP (fV (qK (tP (bG qP qQ U! dC n!) (rG (bG ey! xM U! aL! n!))))) (aI (bA (i:=1) nd rfl d! wg_))) (aI (bW wh!))))
end
section
def lI(T:h!):Et P w K mg base 2 t.B6 "can_move" mv! (Di t):=
 dA T.T3 T.J4 h_ (λhr _=>(aI (bW (yC nt_ (yC wi_ (sW (c4r (cE (kG T) f_ n_ (aF Z! bM!)))))))))
end
section
def mZ(T:h!):Et P w K mg base 1 t.B7 "holds" bo! (Dz t):=
 dA T.T4 T.F7 h_ (λhr _=>(aI (bW (yC wh! (sW (jF gd! lQ r_ eE! rfl))))))
end
section
def sN(T:h!):Et P w K mg base 2 t.B6 "cut" wG_ (Hs t):=
 dA T.T3 T.J7 h_ (λhr nd=>(aE (dM (xW (gM nt_)) (aI xX) bV) (aI (eQ IP rfl (lS (b0p rfl T.Q8 dr! (aR aL bD dr! bK_))) (bC (i:=4) nd rfl d!) ev! (aE (bA (i:=5) nd rfl d! (aD (aR aL bD (cU aL! dP cb_) (dI (aC cd_ aK))))) (aI (dM (gM (cE (mZ T) f_ (fA ae_ dQ iW_ r_ q!) nv!)) (aI (eA w! (bF T.T3 T.V8 n_) bq_ iH_)) bV)))))))
end
section
def kZ(T:h!):Uk P w K mg base 1 "Row" t.B7 [Y_] (Fd t):=
 xL T.F6 h_ (λhr _=>(aE (fP T.T4 T.V1 n_ wn_) (aI (fP T.T4 T.V2 n_ wn_))))
end
section
def uI(T:h!):Uk P w K mg base 3 "Outline" t.B6 [Y_] (Gj t):=
 xL T.G6 h_ (λhr _=>(aE (fP T.T3 T.V3 n_ (qZ w! (lB cN_ cG! (lB cN_ cG! xY)))) (aE (fP T.T3 T.V4 n_ (qZ w! (lB cN_ iZ_ (lB cN_ iZ_ xY)))) (aE (fP T.T3 T.V5 n_ gF) (aE (fP T.T3 T.V6 n_ gF) (aE (fP T.T3 T.V7 n_ gF) (aI (fP T.T3 T.V8 n_ gF))))))))
end
section
def fN(T:h!):Et P w K mg base 2 t.B7 "put_behind" wF_ (Bw t):=
 dA T.T4 T.F8 h_ (λhr nd=>(aE (bA (i:=3) nd rfl d! (c2g (gM (cE (mZ T) f_ n_ f7_)) Z! cG!)) (aE (bA (i:=4) nd rfl d! (fA ae_ dQ eE! bO_ q!)) (aE (eA w! eE! bO_ r_) (aE (eA w! i0_ r_ bO_) (aE (eA w! eE! r_ U_) (aI (eA w! i0_ U_ r_))))))))
end
section
def qI(T:h!):Et P w K mg base 1 t.B7 "take_out" bo! (Ha t):=
 dA T.T4 T.F9 h_ (λhr nd=>(aE (bA (i:=2) nd rfl d! (b4i w! i0_ r_ cc!)) (aE (bA (i:=3) nd rfl d! (b4i w! eE! r_ cc!)) (aE (eA w! eE! Z! bO_) (aI (eA w! i0_ bO_ Z!))))))
end
section
def jQ(T:h!):Et P w K mg base 3 t.B6 "move" fX! (Fe t):=
 dA T.T3 T.J5 h_ (λhr _=>(aE (dM (xW (gM (cE (lI T) f_ n_ u8!))) (aI xX) bV) (aE (cK (cE (qI T) f_ (fA ae_ dQ gg_ wg_ q!) bM!)) (aE (cK (cE (fN T) f_ (fA ae_ dQ gg_ Z! q!) wv_)) (aI (eA w! nt! r_ Z!))))))
end
section
def sM(T:h!):Et P w K mg base 3 t.B6 "put" fX! (Hr t):=
 dA T.T3 T.H9 h_ (λhr nd=>(aE (bA (i:=4) nd rfl d! (c2g (gM wi_) Z! cN_)) (aE (eA w! nt! r_ U_) (aE (cK (cE (fN T) f_ (fA ae_ dQ gg_ U_ q!) wv_)) (aE (eA w! gg_ r_ iZ_) (aE (eA w! iW_ r_ iZ_) (aI (eA w! wy! r_ (b9i (aF ae! aP) (aD ug_))))))))))
end
section
def jR(T:h!):Et P w K mg base 2 t.B6 "set_number" mz! (Ea t):=
 dA T.T3 T.J8 h_ (λhr _=>(aI (dM (gM nt_) (aI (eA w! (fA ae_ dQ wy! r_ q!) Z! bO_)) bV)))
end
section
def oW(T:h!):Et P w K mg base 3 t.B6 "write" wG! (Ge t):=
 dA T.T3 T.J6 h_ (λhr nd=>(aE (dM (xW (gM (cE (dW T) f_ n_ f7_))) (aI xX) bV) (aE (bA (i:=5) nd rfl d! bO_) (aI (eQ IP rfl (lS (b6l rfl T.Q1 cd_)) (b2t rfl (mP (bC (i:=6) nd rfl d!) (mP (bC (i:=7) nd rfl d!) a6p))) (b5p 6 7) (aE (bA (i:=8) nd rfl d! (aD (aR aL bD U! (dI (aC aL_ aK))))) (aE (cK (cE (fN T) f_ (fA ae_ dQ iW_ Z! q!) (aF iK! nv!))) (aE (eA w! (bF T.T3 T.V7 n_) iK! (aD cd!)) (aI (bA (i:=5) nd rfl d! iK!))))))))))
end
section
def oU(T:h!):Ok P w K mg base 1 "time_and_hand" cA_ (Ce):=
 dX T.E8 h_ (λhr _=>(aU (bL ur!)))
end
section
def kF(T:h!):Ok P w K mg base 4 "in_order" b8! (Ck):=
 dX T.E9 h_ (λhr _=>(aU (bL (b6n (oU T) (Ah.in1 (Ah.in1 f_)) rfl rfl T.Q9 y!))))
end
section
def mX(T:h!):Ou P w K mg base 5 "all_taken" bd! (Dy t):=
 eF T.K8 h_ (λhr nd=>(aE (c9l (pL (i:=1) nd rfl d! aK)) (aE (eQ IP rfl (yA dq!) wH! (cL 2) (aI (a9x (i:=1) b_ (fA ae_ dQ dq! Z! q!)))) (b4c (aI (bW (aD (aO (kF T) f_ rfl ix_ ar_))))))))
end
section
def b8x(T:h!):Ou P w K mg base 6 "give" [M_,"have"] (Ql t):=
 eF T.N5 h_ (λhr nd=>(aE (bA (i:=2) nd rfl at! (a9z w! rfl T.Q0 rfl T.Q1 rfl r_)) (aI (bW (jE (NL:=cA_) (NF:=[mW!]) (ix:=[2]) rfl b_ k_ (cF (sc:=Ae Te) rfl k_) mR_ b_ rfl (fQ wK!) (λ_ _ _ _ _=>bC (i:=0) (show([bF_,mW!]:List Str).Nodup by decide+kernel) rfl d!) aw_ (λ_ _ _ _ _=>pT (fX a6u (Gg.m a6w) m5_ (nH w! r_ m5_ ae! cc!) n!)) ev_)))))
end
section
def gZ(T:h!):Ok P w K mg base 1 "is_undo_or_redo" cA_ (Ao):=
 dX T.J9 h_ (λhr _=>(aU (bL (wJ wL! (fU wL!)))))
end
section
def uG(T:h!):Ou P w K mg base 5 "last_words" b8! (Fc):=
 eF T.K0 h_ (λhr nd=>(aE (bA (i:=1) nd rfl d! gF) (aE (eQ IP rfl wO! wH! (cL 2) (aI (dM (fV (eS (aO (gZ T) f_ rfl es_ ar_))) (aI (eA w! r_ (aD iB_) (aD iB_))) bV))) nn_)))
end
section
def xI(T:h!):Ou P w K mg base 3 "next_time" bd! (Hj t):=
 eF T.N7 h_ (λhr _=>(aI (bW (nF aL gU ae! (b9j rfl T.Q6 rfl (jE (NL:=[do_]) (NF:=bd!) (ix:=[0]) rfl b_ k_ (cF (sc:=Ae Lf) rfl k_) m3! b_ rfl (yA dq!) (λ_ _ _ _ _=>bC (i:=0) (show([do_,M_]:List Str).Nodup by decide+kernel) rfl d!) aw_ nB_ (λ_ _ _ _ _=>(bR (mW T) f_ rfl vO!))))))))
end
section
def b8w(T:h!):Ou P w K mg base 4 "make" [M_,"deed"] (Qk t):=
 eF T.N8 h_ (λhr nd=>(aE (bA (i:=2) nd rfl d! (b4h (aF nk! (aF (nF aL gU (cE (fO T) f_ n_ (aF nk! aP)) ae!) aP)))) (aE (cK (bR (oV T) f_ rfl (aF n_ (aF (nF aL gU Z! (b4h (aF (bR (xI T) f_ rfl dv_) bM!))) aP)))) dt_)))
end
section
def a9k(T:h!):Ou P w K mg base 6 "undone" b8! (Js):=
 eF T.K3 h_ (λhr nd=>(aE (bA (i:=1) nd rfl d! (bR (uG T) f_ rfl dv_)) (aE ni_ (aE (eQ IP rfl (lS (eJ y!)) et_ eu! (aE nj_ (aI (dM (b9f (pA (fV (gQ (eS (aO (gZ T) f_ rfl mP_ ar_)))) (qV (fX P_ eu_ (b4k w! r_ U_ cc!) cN_ n!)))) (aI (eA w! Z! U_ iH_)) bV)))) dt_))))
end
section
def b8v(T:h!):Ou P w K mg base 4 "play" mH! (La t):=
 eF T.K4 h_ (λhr _=>(aI (dM eH_ (aI (cK (cE (sM T) f_ n_ (aF r_ wY_)))) (aI (dM eH_ (aI (cK (cE (jQ T) f_ n_ i5_))) (aI (dM eH_ (aI (cK (cE (jQ T) f_ n_ (aF eD! w0!)))) (aI (dM eH_ (aI (cK (cE (oW T) f_ n_ (aF r_ i5_)))) (aI (dM eH_ (aI (cK (cE (sN T) f_ n_ i5_))) (aI (dM eH_ (aI (cK (cE (jR T) f_ n_ i5_))) bV)))))))))))))
end
section
def a9l(T:h!):Ou P w K mg base 7 "played" b8! (Hy t):=
 eF T.K5 h_ (λhr nd=>(aE (bA (i:=1) nd rfl d! (kJ (uI T) f_ rfl)) (aE (bA (i:=2) nd rfl d! (bR (a9k T) f_ rfl dv_)) (aE (eQ IP rfl wO! et_ eu! (aE nj_ (aI (dM vb_ (aI (cK (bR (b8v T) f_ rfl (aF r_ (aF U_ (aF iT! aP)))))) bV)))) nn_))))
end
section
def uF(T:h!):Ou P w K mg base 8 "outline_of" bd! (Il t):=
 eF T.K9 h_ (λhr _=>(aE (dM (fX xH (Gg.m xN) w6_ cG! n!) (aI (fP T.T2 T.W5 n_ (bR (a9l T) f_ rfl (aF wK! aP)))) bV) (aI (bW w6_))))
end
section
def oS(T:h!):Vx P w K mg base 9 "outline_with" [M_,av_] (Ir t):=
 oX (q:=Io t) T.N6 h_ (λhr hX nd=>(fF (b3x (bA (i:=2) nd rfl d! (bR (uF T) f_ rfl dv_))) (fF (vU (xW (gM (cE (iB T) f_ Z! bM!))) (eV (kH hX T.U2 hr.hd rfl T.T8 (yB (c0j (i:=1) hr rfl d! b_ nk_)))) iS!) (sS dt_))))
end
section
def b8u(T:h!):Vx P w K mg base 10 "put" iF_ (Vs t):=
 oX (q:=Vf t) T.N9 h_ (λhr hX _=>(fF (xV (qT hX (oS T) f_ rfl dv!)) (sS (aI (bW (bR (b8w T) f_ rfl (aF n_ (aF (aD (dI (aC bX (aC U! es_)))) aP))))))))
end
section
def c4g(T:h!):Ou P w K mg base 10 "put" iF_ (Tl t):=(b8u T).m
end
def Xx(K:zr!):Sp:=λvs H Q E=>∀(P:yL!) (w:yK!) (t:Bl),t.nd->Wx P w K 1 (Yc t) vs H Q E
section
variable{P:yL!}{w:yK!}{K:zr!}{mg:Str->Option Value}{h:Heap}
def c6u(gi:mg "law"=some ew_)(dl:Zg K mg "law" Jf [aW!])(T:Txt P w K mg i8!)(nd:Bl.nd i8!):
  ∃fd:FuncData,(∀(s:yM!) (u:yB!),BindsTo s fd iI! [("_law_script",u)])/\∀base:Heap,K.In base->base.Ns mainGlobals mg->Em P w K mg base Ng 12 fa fd [aW!] (Xx K):=by
 obtain⟨fd,Y,h2⟩:=b9s (cu:=[]) (k:=11) (P:=P) (w:=w) (q:=Vi i8!) dl eO gi (λbase af ah A outer s H E hr=>(aE (bA (i:=1) eO.nd rfl at! (aD (aN aJ aM mT_ go_ q!)))
   (aE (bA (i:=2) eO.nd rfl at! (aD (aO (a9m T) f_ rfl (aC y! (aC aB (aC (aR aL bD aB go_) aK))) ns!)))
   (aE (bA (i:=3) eO.nd rfl d! (aD (eY P_ bQ go_ aB n!)))
   (aE (dM (fV nJ_) (aI (bA (i:=2) eO.nd rfl at! (jE (NL:=[aW_]) (NF:=ey_) (ix:=[2]) rfl b_ k_ gp! mR_ b_ rfl mX_ (λ_ _ _ _ _=>bC (i:=0) (show([aW_,b6_]:List Str).Nodup by decide+kernel) rfl d!) aw_ nB_ (λ_ _ _ _ _=>(aD (dI (aC aB (aC (aR aL bD y! aB) (aC (aR aL bD uz_ aB) (aC (aN aJ aM (aN aJ aM U! (aR cM cN y! vo!) q!) aB q!) aK)))))))))) bV)
   (aE (bA (i:=4) eO.nd rfl d! (b9k (a4j T) f_ rfl bM!))
   (aE (bA (i:=5) eO.nd rfl at! iw!)
   (aE (dM (fV xg_) (aE (cK (bR (c4g T) f_ rfl (aF U_ w0!)))
   (aE (bA (i:=5) eO.nd rfl at! (nG (aF (aD (dI (aC U! (aC aB (aC aB (aC mO_ aK)))))) aP)))
   (aI (bA (i:=2) eO.nd rfl at! (nF aL gU bq_ (aD (jM (NL:=bK!) (NF:=[ec_]) (ix:=[1]) rfl b_ k_ gp! (Cs.cons (j:=1) Cs.nil) b_ rfl mV_ u2_ aw_ (λ_ _ _ _ _=>c1z (bG ey! xM aw! U! n!)) (λ_ _ _ _ _=>y!)))))))) bV)
   (aE (bA (i:=6) eO.nd rfl d! iw!)
   (aE (eQ IP rfl (lS (gK rfl T.Q8 (c8w nJ_ aB go_))) (bC (i:=7) eO.nd rfl at!) (cL 7) (aE (bA (i:=9) eO.nd rfl d! (aD (aO (a1d T) f_ rfl (aC y! (aC (aR aL bD aB (aR jZ kB aB cd!)) es_)) ns!)))
   (aE (dM (fV (qK (tP nJ_ (tP (bG sJ sL cd! aB n!) (rG xg_))))) (aI (qW (i:=9) (NL:=bK!) (NF:=[aW_]) (ix:=[7]) eO.nd rfl d! rfl b_ k_ gp! (Cs.cons (j:=7) Cs.nil) b_ rfl (lS mV_) (λ_ _ _ _ _=>bC (i:=0) (show([bN!,aW_]:List Str).Nodup by decide+kernel) rfl d!) aw_ (λ_ _ _ _ _=>pT (fV (qK (tP (bG P_ bQ aw! aB n!) (rG (bG P_ bQ (aR gD gE aw! aB) (aR cM cN iy_ aB) n!)))))) ev_)) bV)
   (aE (bA (i:=10) eO.nd rfl d! (bR (b8z T) f_ rfl (aF r_ (aF bq_ (aF (aD aL_) (aF m8! aP))))))
   (aE (bA (i:=11) eO.nd rfl d! (bR (b8y T) f_ rfl (aF U_ (aF (aD (b0q oA c1o rfl T.Q5 a8e (aC bd_ aK))) aP))))
   (aE (dM (fV (qK (qA (gQ (eS (aO (a9n T) f_ rfl (aC f5! aK) ar_))) (kS (bG ey! xM f5! et! n!))))) xn! bV)
   (aI (eQ IP rfl mX_ (bC (i:=12) eO.nd rfl at!) (cL 12) (aI (dM (fX ey! b3j (cE (fO T) f_ U_ (aF (aD (aA 12)) aP)) (fR cB lY rfl T.Q4 dJ (aF (jE (NL:=bK!) (NF:=[fK_]) (ix:=[12]) rfl b_ k_ gp! (Cs.cons (j:=12) Cs.nil) b_ rfl (fQ bq_) (λ_ _ _ _ _=>bC (i:=0) (show([bN!,fK_]:List Str).Nodup by decide+kernel) rfl d!) aw_ u3! ev_) aP)) n!) xn! bV))))))))))
   (aE (bA (i:=8) eO.nd rfl d! (bR (b8x T) f_ rfl (aF U_ (aF (b9h (aF ae! aP) ae!) aP))))
   (aI (bW (yC (jF P_ eu_ (aD (cG cB eZ rfl T.Q4 dJ (aC bL_ aK))) (fR cB lY rfl T.Q4 dJ nv!) n!) (sW (fR iv! (Ku.toM zU) rfl T.P8 zV (aF (jE (NL:=bK!) (NF:=[cD!]) (ix:=[5]) rfl b_ k_ gp! (Cs.cons (j:=5) Cs.nil) b_ rfl (lS (eJ bL_)) (λ_ _ _ _ _=>bC (i:=0) (show([bN!,cD!]:List Str).Nodup by decide+kernel) rfl d!) aw_ nB_ (λ_ _ _ _ _=>(jF gd! lQ n_ r_ rfl))) aP)))))))))))))))))
 exact⟨fd,Y,λbase i g=>(h2 base i g).imp λvs H Q E z=>z P w _ nd⟩
def b0l{ad:yz!}{o0 o1 o2 o3 o4 o5 o6 o7:ez!}{n0 n1 n2 n3 n4 n5 n6 n7 ep:Nat}{s0 s1 s2 s3 s4 s5 s6 s7:Array m9!}(X:K.In h)(G:eX!)
  (ga:W.nsIn K mainGlobals "PARTS"=some (some jw_))(gl:K.lookup ad=some {cls:=.type "dict",data:=.dict #[⟨PyData.keyHash w.params "put",.str "put" k0,.ref r0⟩,⟨PyData.keyHash w.params "move",.str "move" k1,.ref r1⟩,⟨PyData.keyHash w.params "drop",.str "drop" k2,.ref r2⟩,⟨PyData.keyHash w.params "write",.str "write" k3,.ref r3⟩,⟨PyData.keyHash w.params "cut",.str "cut" k4,.ref r4⟩,⟨PyData.keyHash w.params "set",.str "set" k5,.ref r5⟩,⟨PyData.keyHash w.params "undo",.str "undo" k6,.ref r6⟩,⟨PyData.keyHash w.params "redo",.str "redo" k7,.ref r7⟩] ep})(gs:oa!=false)
  (l0:K.lookup r0=some ⟨cn_,o0,.seq #[.ref B8,.ref B9] n0,s0⟩)
  (l1:K.lookup r1=some ⟨cn_,o1,.seq #[.ref B8,.ref B8,.ref B9] n1,s1⟩)
  (l2:K.lookup r2=some ⟨cn_,o2,.seq #[.ref B8] n2,s2⟩)
  (l3:K.lookup r3=some ⟨cn_,o3,.seq #[.ref B8,.ref C2,.ref C3] n3,s3⟩)
  (l4:K.lookup r4=some ⟨cn_,o4,.seq #[.ref B8,.ref C4,.ref C5] n4,s4⟩)
  (l5:K.lookup r5=some ⟨cn_,o5,.seq #[.ref B8,.ref C6,.ref C7] n5,s5⟩)
  (l6:K.lookup r6=some ⟨cn_,o6,.seq #[.ref C8] n6,s6⟩)
  (l7:K.lookup r7=some ⟨cn_,o7,.seq #[.ref C8] n7,s7⟩)
  :∀X:Cx,X.prog=P->X.w=w->X.K=K->X.mg=mg->Rw X "PARTS" (Gn i8!):=λg8 e1 e2 e3 e4=>
 b5q (rows:=[("put",k0,r0),("move",k1,r1),("drop",k2,r2),("write",k3,r3),("cut",k4,r4),("set",k5,r5),("undo",k6,r6),("redo",k7,r7)]) (w:=w) e2 e3 e4 (dD X G ga) gs gl (show(["put","move","drop","write","cut","set","undo","redo"]:List Str).Nodup by decide+kernel) ⟨rfl,gH (fs:=[B8,B9]) l0 (by show 2<=1000;decide),rfl,gH (fs:=[B8,B8,B9]) l1 jf_,rfl,gH (fs:=[B8]) l2 nR!,rfl,gH (fs:=[B8,C2,C3]) l3 jf_,rfl,gH (fs:=[B8,C4,C5]) l4 jf_,rfl,gH (fs:=[B8,C6,C7]) l5 jf_,rfl,gH (fs:=[C8]) l6 nR!,rfl,gH (fs:=[C8]) l7 nR!,trivial⟩
def xP{D:yz!}{c1 c2:ClassData}(ga:W.findIn K aB_ "__getattribute__"=some rC!)(gh:W.findIn K aB_ "__getattr__"=some none)(ha:W.findIn K aB_ "__class__"=some (some df!))(hn:W.specialIn K df! "__get__"=some (some hO!))(ht:W.takesIn K df!=some true)(hm:W.mroIn K D rD_=some true)(hc:W.clsIn K D=some c1)(sb:W.subIn K aB_ hB_=some true)(ne:D≠C)(cc:W.clsIn K C=some c2)(ty:W.typeIn K H_=some rE!)(sc:W.subIn K aB_ H_=some false):DL.Mo K D C:=⟨ga,gh,ha,hn,ht,hm,⟨_,hc⟩,sb,ne,⟨_,cc⟩,ty,sc⟩
end
end K12
open PySem PySem.W PyProof.Rows
set_option maxRecDepth 100000 in
set_option maxHeartbeats 0 in
theorem PySem.Challenge.cw_manyhands_k12_taking_holds : PySem.Challenge.rw_manyhands_k12_taking.Holds := by
 w_on;o_law;k_head;(case hw=>w_witness2)
 k_fill
 refine L2.b1f (l:=PySem.Challenge.rw_manyhands_k12_taking) (n:=63) (k:=12) (x:="_law_script") (CX:=L2.Ng) (sp:=K12.Xx) rfl (by decide) rfl ⟨rfl,by decide,by decide,rfl⟩ (λw h Y=>W.kIn_of Y) ?F (λK H a ns hl _ hS P w t nd=>DL.b9r hS (K12.b4w nd)) (λ_ _ _ _ z=>z)
 case F=>
  intro w mg fa h KX G hmg;refine' K12.c6u hmg ?dl ⟨?D3,?D4,?D5,?D6,?D7,?D8,?D9,?E1,?E2,?E3,?E4,?E5,?E6,?E7,?E8,?E9,?F6,?F7,?F8,?F9,?G6,?G7,?G8,?G9,?H9,?J4,?J5,?J6,?J7,?J8,?J9,?K0,?K3,?K4,?K5,?K6,?K7,?K8,?K9,?L4,?L5,?L6,?L7,?L8,?L9,?M9,?N0,?N3,?N4,?N5,?N6,?N7,?N8,?N9,?O0,?O3,?O4,?O5,?O6,?O7,?O8,?O9,?P0,?P1,?P3,?P4,?P5,?P6,?P7,?P8,?P9,?Q0,?Q1,?Q2,?Q3,?Q4,?Q5,?Q6,?Q7,?Q8,?Q9,?R0,?R3,?R4,?R5,?R6,?R7,?R8,?R9,?S0,?S3,?S4,?S5,?S6,?S7,?S8,?S9,?T0,?T2,?T3,?T4,?T5,?T6,?T7,?T8,?T9,?U0,?U1,?U2,?U3,?U4,?U5,?U6,?U7,?U8,?U9,?V0,?V1,?V2,?V3,?V4,?V5,?V6,?V7,?V8,?V9,?W3,?W4,?W5,?gp⟩ ?nd
  (case F6=>show"!!")
  (case G6=>show"!!")
  (case K6=>(dsimp only;refine' DL.b4e (DL.dD KX G ?g) ?a ?i ?l ?c ?k ?mm ?kc ?b;(case g=>k_is);(case a=>k_is);(case i=>k_is);(case l=>k_is);(case c=>k_is);(case k=>k_is);(case mm=>k_is);(case kc=>k_is);(case b=>exact λ_ _ _ _ _ _=>DL.oJ λ_ _=>rfl)))
  (case D3=>show"!#")
  (case D4=>show"!$")
  (case D5=>show"!#")
  (case D6=>show"!#")
  (case D7=>show"!#")
  (case D8=>show"!#")
  (case D9=>show"!#")
  (case E1=>show"!#")
  (case E2=>show"!#")
  (case E3=>show"!#")
  (case E4=>show"!#")
  (case E5=>show"!$")
  (case E6=>show"!#")
  (case E7=>show"!#")
  (case E8=>show"!#")
  (case E9=>show"!#")
  (case F7=>show"!%")
  (case F8=>show"!&")
  (case F9=>show"!%")
  (case G7=>show"!%")
  (case G8=>show"!%")
  (case G9=>show"!&")
  (case H9=>show"!'")
  (case J4=>show"!&")
  (case J5=>show"!'")
  (case J6=>(dsimp only;refine' DL.eW ?a ?i ?l ?c ?k ?b;(case a=>k_is);(case i=>k_is);(case l=>k_is);(case c=>k_is);(case k=>k_is);(case b=>exact λ_ _ _ _ _ _=>DL.us5 λ_ _ _ _ _=>rfl)))
  (case J7=>show"!'")
  (case J8=>show"!'")
  (case J9=>show"!#")
  (case K0=>show"!#")
  (case K3=>show"!#")
  (case K4=>show"!(")
  (case K5=>show"!#")
  (case K7=>show"!%")
  (case K8=>show"!#")
  (case K9=>show"!#")
  (case L4=>show"!$")
  (case L5=>show"!$")
  (case L6=>show"!$")
  (case L7=>show"!$")
  (case L8=>show"!$")
  (case L9=>show"!$")
  (case M9=>show"!$")
  (case N0=>show"!#")
  (case N3=>show"!$")
  (case N4=>show"!$")
  (case N5=>show"!$")
  (case N6=>show"!$")
  (case N7=>show"!#")
  (case N8=>show"!$")
  (case N9=>show"!(")
  (case O0=>show"!$")
  (case O3=>show"!$")
  (case O4=>show"!#")
  (case O5=>show"!#")
  (case O6=>show"!#")
  (case O7=>show"!$")
  (case O8=>show"!$")
  (case O9=>show"!)")
  (case P0=>show"!(")
  (case P1=>show"!$")
  (case P3=>show"!$")
  (case P4=>show"!(")
  (case P5=>show"!)")
  (case P6=>show"!#")
  (case dl=>(refine' DL.c0t KX G ?a ?l ?c ?k ?b;(case a=>k_is);(case l=>k_is);(case c=>k_is);(case k=>k_is);(case b=>exact λ_ _ _ _ _ _=>DL.mF λ_=>rfl)))
  (case P7=>show"!*")
  (case P8=>show"!*")
  (case P9=>show"!*")
  (case Q0=>show"!*")
  (case Q1=>show"!*")
  (case Q2=>show"!*")
  (case Q3=>show"!*")
  (case Q4=>show"!*")
  (case Q5=>show"!*")
  (case Q6=>show"!*")
  (case Q7=>show"!*")
  (case Q8=>show"!*")
  (case Q9=>show"!*")
  (case R0=>show"!*")
  (case R3=>show"!*")
  (case R4=>show"!*")
  (case R5=>show"!+")
  (case R6=>show"!+")
  (case R7=>show"!+")
  (case R8=>show"!+")
  (case R9=>show"!+")
  (case S0=>show"!,")
  (case S3=>show"!,")
  (case S4=>show"!,")
  (case S5=>show"!,")
  (case S6=>show"!,")
  (case S7=>show"!,")
  (case S8=>show"!,")
  (case S9=>show"!,")
  (case T0=>show"!,")
  (case T2=>show"!-")
  (case T3=>show"!-")
  (case T4=>show"!-")
  (case T5=>show"!,")
  (case T6=>show"!,")
  (case T7=>show"!,")
  (case T8=>show"!,")
  (case T9=>show"!,")
  (case U0=>show"!.")
  (case U1=>show"!.")
  (case U2=>show"!.")
  (case U3=>show"!.")
  (case U4=>(dsimp only;refine' XS.c6l ?ta ?tb ?tc;(case ta=>k_is);(case tb=>k_is);(case tc=>k_is)))
  (case U5=>show"!/")
  (case U6=>show"!/")
  (case U7=>show"!/")
  (case U8=>show"!0")
  (case U9=>show"!0")
  (case V0=>show"!0")
  (case V1=>show"!1")
  (case V2=>show"!1")
  (case V3=>show"!1")
  (case V4=>show"!1")
  (case V5=>show"!1")
  (case V6=>show"!1")
  (case V7=>show"!1")
  (case V8=>show"!1")
  (case V9=>show"!1")
  (case W3=>show"!1")
  (case W4=>show"!1")
  (case W5=>show"!1")
  (case gp=>(refine' K12.b0l KX G ?ga ?gl ?gs ?l0 ?l1 ?l2 ?l3 ?l4 ?l5 ?l6 ?l7;(case ga=>k_is);(case gl=>k_is);(case gs=>decide);(case l0=>k_is);(case l1=>k_is);(case l2=>k_is);(case l3=>k_is);(case l4=>k_is);(case l5=>k_is);(case l6=>k_is);(case l7=>k_is)))
  (case nd=>(unfold K12.Bl.nd;decide))
#print axioms PySem.Challenge.cw_manyhands_k12_taking_holds
