import PyProof.Rows.All
import Wide.All
import OpenK.AllK
import Wide.FinOn
import Lean
import PyProof.EqAt
import PyProof.EqKinds
import PyProof.TupleCall
import KE.KIntText
import PyProof.Rows.SortShell
import PyProof.Rows.CallKwBuiltin
import KE.KSortKey
import KE.KDictSum
import KE.KMinBuiltin
import PySem.Challenge.RW_manyhands_k24_whole_back
set_option linter.all false
set_option genSizeOf false
set_option Elab.async false
set_option maxRecDepth 100000
set_option maxHeartbeats 4000000
def HI:=@PySem.wpAny_bind
def HJ:=@Option.bind_eq_some_iff
def HK:=@PySem.wpAny_pure
def HL:=@List.mem_cons_of_mem
def HM:=@PySem.Heap.get?_push_of_some
def HN:=@List.mem_cons
def HP:=@if_neg
def HQ:=@List.mem_cons_self
def HR:=@Ne.symm
def HS:=@List.size_toArray
def HU:=@Option.map_eq_some_iff
def HV:=@List.map_cons
def HX:=@List.mem_append
def HY:=@if_pos
def HZ:=@List.mem_singleton
def IA:=@List.mem_append_right
def IB:=@List.mem_map_of_mem
def IE:=@List.length_cons
def IF:=@decide_eq_false
def IG:=@List.length_append
def IH:=@List.mem_map
def II:=@List.getElem?_eq_getElem
def IJ:=@List.nodup_cons
def IK:=@List.length_map
def IL:=@List.getElem?_eq_some_iff
def IM:=@Nat.le_refl
def IN:=@Bool.false_ne_true
def IP:=@PySem.Heap.get?_push_size
def IQ:=@PySem.Heap.lt_size
def IR:=@List.append_nil
def IS:=@List.mem_append_left
def IT:=@Nat.lt_of_lt_of_le
def IU:=@List.map_append
def IV:=@decide_eq_true
def IW:=@Bool.false_eq_true
def IY:=@List.nodup_append
def IZ:=@Bool.and_eq_true
def JA:=@decide_eq_true_eq
def JB:=@Nat.le_trans
def JC:=@List.getElem?_map
def JD:=@PySem.PassesOwn.never
def JE:=@List.getElem?_set_ne
def JF:=@List.not_mem_nil
def JG:=@Nat.ne_of_lt
def JH:=@Array.getElem?_eq_getElem
def JI:=@PySem.Heap.get?_update_other
def JJ:=@Option.some.inj
def JK:=@if_false
def JL:=@List.map_map
def JM:=@List.getElem?_append_right
def JN:=@PySem.wpAny_truthy_bool
def JO:=@PySem.wpAny_holding
def JP:=@PySem.wpAny_call_entry
def JQ:=@List.filter_cons_of_neg
def JR:=@List.lookup_cons
def JS:=@Nat.zero_le
def JT:=@if_true
def JU:=@Array.length_toList
def JV:=@PySem.sizeLine_eq
def JW:=@List.getElem?_eq_none
def JX:=@List.filter_eq_self
def JY:=@List.filter_cons_of_pos
def JZ:=@PySem.wpAny_callSpecial?_slot
def KA:=@List.getElem?_append_left
def KB:=@List.append_assoc
def KC:=@List.getElem?_set_self
def KD:=@Int.emod_lt_of_pos
def KF:=@PyProof.Rows.wpS_bind
def KG:=@List.pairwise_cons
def KH:=@List.length_zip
def KI:=@beq_eq_false_iff_ne
def KJ:=@List.map_congr_left
def KL:=@PySem.wpAny_mono
def KM:=@of_decide_eq_true
def KN:=@PySem.F.slot_dict_keyiterator_next
def KO:=@PySem.wpAny_newObj_type
def KP:=@List.nil_append
def KQ:=@List.mem_filter
def KR:=@Int.emod_nonneg
def KS:=@List.getElem_mem
def KU:=@List.filter_congr
def KW:=@Int.le_refl
def KY:=@or_false
def KZ:=@Prod.mk.injEq
def LA:=@List.length_singleton
def LB:=@PySem.wpAny_field
def LC:=@PySem.Heap.SameBut.update
def LD:=@Nat.lt_of_le_of_lt
def LF:=@beq_self_eq_true
def LG:=@List.all_eq_true
def LH:=@Bool.not_true
def LI:=@PySem.wpAny_rule
def LJ:=@PySem.wpAny_Call_Name_kw
def LK:=@Nat.lt_or_ge
def LL:=@PySem.mem_of_lookup
def LM:=@PyProof.Rows.callWith_type1
def LN:=@List.replicate_succ
def LO:=@List.length_set
def LP:=@List.length_nil
def LQ:=@List.find?_cons
def LS:=@Bool.eq_iff_iff
def LU:=@PySem.F.plain_max_loop
def LV:=@PySem.wpAny_seqItems
def LW:=@PyProof.Rows.wpS_pure
def LX:=@PySem.wpAny_dictEntries
def LY:=@List.cons_append
def LZ:=@PySem.wpAny_dictEpoch
def MB:=@List.getElem?_toArray
def MC:=@List.any_cons
def MD:=@List.drop_eq_getElem_cons
def MF:=@List.length_range
def MH:=@List.filter_map
def MJ:=@List.cons.injEq
def ML:=@PySem.Calls.spliced_cons
def MM:=@Bool.and_self
def MN:=@Option.bind_some
def MO:=@List.mem_filterMap
def MQ:=@PySem.Paired.length
def MU:=@PySem.wpAny_typeNameOfWhole_keyiter
def MV:=@Nat.ne_of_gt
def MX:=@Nat.le_of_lt
def MY:=@List.mem_iff_getElem?
def MZ:=@List.map_nil
def NA:=@List.length_replicate
def NB:=@List.length_filter_le
def NC:=@List.forIn_cons
def ND:=@Array.getElem?_toList
def NE:=@beq_iff_eq
def NG:=@Nat.lt_irrefl
def NH:=@List.flatten_cons
def NI:=@List.all_cons
def NJ:=@Int.toNat_natCast
def NK:=@PySem.Calls.callWith_builtin
def NM:=@PySem.wpAny_setField_rec
def NN:=@PySem.F.slot_NoneType_hash
def NO:=@List.pairwise_append
def NP:=@List.mem_of_getElem?
def NQ:=@PySem.wpAny_passesOwn
def NR:=@PySem.wpAny_letGo
def NS:=@List.nodup_nil
def NT:=@List.mem_range
def NU:=@PySem.Heap.get?_update_self
def NV:=@List.zipIdx_cons
def NW:=@PySem.F.slot_tuple_iterator_next
def NX:=@PySem.Calls.evalArgs_plain
def NY:=@decide_eq_false_iff_not
def NZ:=@PySem.F.plainAttrs_list
def OA:=@PySem.F.plainAttrs_dict
def OB:=@List.getElem?_replicate
def OC:=@List.foldl_cons
def OD:=@List.filter_filter
def OE:=@PySem.Heap.size_push
def OF:=@PyProof.Rows.get?_update_seq
def OG:=@List.take_succ_eq_append_getElem
def OH:=@PySem.wpAny_typeNameOf_keyiter
def OI:=@PyProof.Rows.slot_tuple_getitem
def OJ:=@List.Perm.refl
def OK:=@PySem.F.slot_dict_get
def OL:=@Bool.not_eq_eq_eq_not
def OM:=@Nat.lt_succ_self
def ON:=@not_or
def OO:=@List.mem_iff_getElem
def OP:=@PySem.Calls.spliced_nil
def OQ:=@PySem.wpAny_notOrdered_dict
def OT:=@Option.map_some
def OU:=@List.filter_sublist
def OV:=@PyProof.Rows.listUpdate_at
def OX:=@List.nodup_iff_pairwise_ne
def OY:=@List.exists_cons_of_ne_nil
def OZ:=@Array.getElem?_eq_some_iff
def PB:=@of_decide_eq_false
def PD:=@Nat.le_of_eq
def PF:=@List.zip_cons_cons
def PH:=@List.getElem_range
def PJ:=@List.filter_append
def PK:=@PySem.wpAny_attempt
def PL:=@List.pairwise_iff_getElem
def PM:=@List.forIn_nil
def PN:=@Classical.byContradiction
def PP:=@Bool.not_false
def PQ:=@PySem.wpAny_specialOf
def PR:=@PySem.slot_dict_contains
def PU:=@PySem.F.args_tuple_add_2
def PV:=@Option.isSome_iff_exists
def PX:=@Nat.lt_succ_of_lt
def PY:=@List.pairwise_map
def PZ:=@decide_true
def QA:=@PySem.F.entry_tuple_add
def QB:=@Nat.le_succ
def QC:=@List.pairwise_singleton
def QD:=@List.length_eq_zero_iff
def QE:=@PySem.SeqAt.EqAt.int_int
def QF:=@PySem.Obj.data_mapFields
def QG:=@List.length_take
def QH:=@List.drop_length
def QI:=@PySem.F.slot_tuple_add
def QJ:=@List.filter_eq_nil_iff
def QK:=@PySem.wpAny_Call_method
def QL:=@decide_false
def QM:=@List.zipIdx_nil
def QN:=@true_and
def QO:=@PySem.wpAny_standAt
def QP:=@PySem.wpAny_newList
def QQ:=@PySem.wpAny_forIn_list
def QR:=@PySem.F.args_dict_keyiterator_next_1
def QS:=@Bool.and_false
def QT:=@PyProof.Rows.wpS_forRange
def QU:=@PyProof.Rows.listItems_at
def QV:=@PySem.F.entry_dict_keyiterator_next
def QW:=@List.filterMap_cons
def QX:=@PySem.wpAny_loadPart'
def QY:=@PySem.wpAny_isTrue_Compare1
def QZ:=@PySem.wpAny_isOneOf_keyiter
def RA:=@PySem.wpAny_execs_nil
def RB:=@PySem.codeAny_mono
def RC:=@PySem.F.slot_zip_next
def RD:=@PySem.wpAny_updateSeq_pair
def RE:=@PySem.wpAny_updateDictKeys
def RF:=@bne_self_eq_false
def RG:=@List.ext_getElem?
def RH:=@PySem.wpAny_setField
def RI:=@PySem.wpAny_fieldsOf
def RJ:=@Nat.zero_add
def RK:=@Nat.lt_trans
def RL:=@List.length_drop
def RM:=@List.filter_cons
def RN:=@PySem.F.slot_dict_setdefault
def RO:=@BEq.comm
def RP:=@PySem.wpAny_onRaise
def RQ:=@PySem.plainId_quiet
def RS:=@PySem.W.kia_one
def RT:=@List.of_mem_zip
def RU:=@List.map_id
set_option hygiene false
section open Lean
def z'E:Nat->Syntax->String
|0,_=>""
|n+1,s=>match s with
 |.node _ k a=>a.foldl (λr x=>r++z'E n x) s!"n{a.size} {(toString k).replace "Lean.Parser." "~"}\n"
 |.atom _ v=>s!"a{v}\n"
 |.ident _ _ v _=>s!"i{v}\n"
 |_=>"m\n"
def z'D(f:SourceInfo):Nat->List String->Syntax×List String
|n+1,x::l=>let r:=(x.drop 1).toString;match x.front with
 |'n'=>let c:=(r.takeWhile Char.isDigit).toString;let (a,l):=c.toNat!.fold (λ_ _ (a,l)=>let (y,l):=z'D f n l;(a.push y,l)) (#[],l);(.node f ((r.drop (c.length+1)).toString.replace "~" "Lean.Parser.").toName a,l)
 |'a'=>(.atom f r,l)
 |'i'=>(.ident f r.toRawSubstring r.toName [],l)
 |_=>(.missing,l)
|_,l=>(.missing,l)
def z'K:List (String×String):=[("P","n3 ~Term.paren\nn2 ~Term.hygienicLParen\na(\nn1 hygieneInfo\ni[anonymous]"),("D","n1 ~Tactic.tacticSeq\nn1 ~Tactic.tacticSeq1Indented"),("E","n2 ~Term.dotIdent\na."),("A","n2 ~Term.app"),("B","n1 null"),("C","n0 null"),("F","n2 null"),("G","n3 null"),("H","n1 ~Tactic.rcasesPatMed"),("I","n1 ~Tactic.rcasesPat.one"),("J","n2 ~Tactic.rcasesPatLo"),("K","n1 ~Tactic.optConfig"),("L","n4 ~Term.basicFun"),("M","n1 ~Term.hole\na_"),("N","n2 ~Term.byTactic\naby")]
def z'Z(r:SourceInfo)(f:String):Syntax:=(z'D r 999 (((f.takeWhile (·≠'\r')).toString.splitOn "\n").flatMap λs=>match z'K.lookup s with|some x=>x.splitOn "\n"|_=>[s])).1
local macro_rules|`(z [$x,*])=>do let a:=x.getElems;let mut r:="";for i in [0:a.size/2] do {r:=s!"{r}\r{match a[2*i]!.raw.isStrLit? with|some s=>s|_=>a[2*i]!.raw.getId.toString}\r{z'E 999 a[2*i+1]!}"};return (Syntax.mkStrLit (z'K.foldl (λr p=>r.replace (p.2++"\n") (p.1++"\n")) r)).raw
def z't't:String:=z ["pc!",(by simp[Ci,Bl,sSeq,Gi,Cp,Cs,Cu,Ev,Dv,Cz,Mt,Ct,fT,Em,Aa,Fv,f2,Kd,Kq,Mo,Oj,Lz,Ch,Dy,f1,Ac,Ag,Ge,fC,Gk,Ce,Ao,Ds,Eh,Bz,Ck,Bp,Ak,Dc,Ea,Aw,Dj,Dp,Bj,Aq,Ap,Ca,Ar,Cn,Lb,Dk,HT.sIx,List.getElem?_cons_zero,List.getElem?_cons_succ]),"!6",(by split at e),"!#",(by refine' DL.aU KX G ?a ?l ?c ?k ?b;(case a=>k_is);(case l=>k_is);(case c=>k_is);(case k=>k_is);(case b=>exact λ_ _ _ _ _ _=>DL.oG λ_=>rfl)),"!L",(by constructor),"!$",(by refine' DL.aU KX G ?a ?l ?c ?k ?b;(case a=>k_is);(case l=>k_is);(case c=>k_is);(case k=>k_is);(case b=>exact λ_ _ _ _ _ _=>DL.lM λ_ _=>rfl)),"#.",(by dsimp only),"!*",(by refine' DL.dW KX G ?a;(case a=>k_is)),"!1",(by obtain⟨ka,bm⟩:=cQ ha),"!0",(by intro x y dx dy d G H Q sub rx ry e k),"!.",(by dsimp only;(show W.findIn _ _ _=_);k_is),"!%",(by dsimp only;refine' DL.dO ?a ?i ?l ?c ?k ?b;(case a=>k_is);(case i=>k_is);(case l=>k_is);(case c=>k_is);(case k=>k_is);(case b=>exact λ_ _ _ _ _ _=>DL.lM λ_ _=>rfl)),"!f",(by intro z;cases z),"!h",(by by_cases hk:k=d),"!,",(by dsimp only;refine' DL.fH KX G ?a;(case a=>k_is)),"!5",(by rename_i h;cases e;subst h),"!@",(by obtain⟨t,rfl⟩:=rx),"!F",(by rename_i hl;cases e),"!/",(by intro X hP hw hK hc i h1 s Z H E I hf st hg;subst hP hw hK),"!K",(by intro h1 s Z H Q I h),"!Q",(by simp only[HX,HN,KZ]),"!(",(by refine' DL.aU KX G ?a ?l ?c ?k ?b;(case a=>k_is);(case l=>k_is);(case c=>k_is);(case k=>k_is);(case b=>exact λ_ _ _ _ _ _=>DL.us3 λ_ _ _=>rfl)),"!2",(by obtain⟨f0,f1,f2,f3,f4,f5⟩:=hf it d!),"!<",(by obtain⟨x,e1,e⟩:=HJ.mp e),"!J",(by unfold fT;rw[this];rfl),"#(",(by simp only[IW,JK]),"#9",(by by_cases hb:b=a),"!:",(by obtain⟨q0,h0,rfl⟩:=IH.mp hq),"!=",(by obtain⟨q,hq,rfl⟩:=IH.mp hd),"!D",(by obtain⟨v,rfl,rv⟩:=fL r),"#%",(by exact hA.live b hb),"!+",(by refine' DL.rJ KX G ?a;(case a=>k_is)),"!c",(by obtain⟨ep,ht⟩:=hA.tk),"!t",(by exact k _ G H aT! Ax.bl),"#<",(by rw[fW!];exact KW _),"#G",(by rw[aL_];exact KW _),"!'",(by dsimp only;refine' DL.dO ?a ?i ?l ?c ?k ?b;(case a=>k_is);(case i=>k_is);(case l=>k_is);(case c=>k_is);(case k=>k_is);(case b=>exact λ_ _ _ _ _ _=>DL.us4 λ_ _ _ _=>rfl)),"!3",(by obtain⟨a1,a2,a3,a4,a5,a6,k1,k2,k3,k4,k5,k6,hA⟩:=h';refine j_),"!9",(by simp only[Op.nm,D.tup.injEq,MJ,D.int.injEq]at z),"!B",(by obtain⟨o',e1⟩:=I.base.there b o e J),"!G",(by obtain⟨ds,e1,e⟩:=HJ.mp e;show"!6"),"!P",(by obtain⟨its,r,pl,hz⟩:=I.list hq),"!S",(by obtain⟨a,vs,rfl,qa,ra⟩:=bS rx),"!T",(by intro vs ds d M G H Q sub m r e k),"!X",(by obtain⟨p,vs,rfl,q,rr⟩:=bS r),"!^",(by cases bG rx;cases bG ry;cases e),"!d",(by unfold Dc Ea;rw[ac!,ev!];simp),"!g",(by intro vs ds d G H Q sub r e k),"!p",(by subst e;exact I1.fpOk y! (I1.hok.fresh y!)),"!u",(by rename_i h;rw[IZ,IZ,JA]at h),"!y",(by subst hb;rw[cC]at e;cases e),"!z",(by obtain⟨wt,wn,qa,hA⟩:=h),"#&",(by unfold Dc Ea;rw[ac!,ef!]),"#'",(by subst q1;rw[cV];show"!L"),"#5",(by obtain⟨a,rfl,q⟩:=J),"#C",(by rintro(z|⟨z,_⟩|z)),"#D",(by rintro(z|⟨_,z⟩|z)),"!&",(by dsimp only;refine' DL.dO ?a ?i ?l ?c ?k ?b;(case a=>k_is);(case i=>k_is);(case l=>k_is);(case c=>k_is);(case k=>k_is);(case b=>exact λ_ _ _ _ _ _=>DL.us3 λ_ _ _=>rfl)),"!)",(by refine' DL.aU KX G ?a ?l ?c ?k ?b;(case a=>k_is);(case l=>k_is);(case c=>k_is);(case k=>k_is);(case b=>exact λ_ _ _ _ _ _=>DL.us4 λ_ _ _ _=>rfl)),"!-",(by dsimp only;refine'⟨?pg,?hd,?po,?sa⟩;(case pg=>k_is);(case hd=>k_is);(case po=>k_is);(case sa=>k_is)),"!4",(by obtain⟨v1,t1,rfl,r1,rr⟩:=bR rr;obtain⟨v2,t2,rfl,r2,rr⟩:=bR rr;cases cS rr),"!M",(by unfold An at h;obtain⟨u,r,e1,q,t⟩:=h;subst e1),"!U",(by unfold Ax at h ⊢;obtain⟨a,vs,e,q,r⟩:=h),"!W",(by obtain⟨sl,e1⟩:=I.base.slot b o e n hb J),"![",(by obtain⟨a',b',c',e',hm⟩:=w.sgs x J q hq),"!_",(by intro x y dx dy d M G H Q sub m rx ry e k),"!`",(by cases a0g I n r ru<;>cases a0g I n' r' av),"!i",(by refine hV h cu ?_;by_cases c1:i∈W.its),"!{",(by obtain⟨its,r,pl,hz⟩:=I.tuple hq),"!|",(by obtain⟨e,n,ne,nf,d⟩:=I.pin p hp),"!}",(by obtain⟨_,vs,Y,L⟩:=m.cell a _ hM),"#!",(by rw[HP c];exact keep rfl rfl w.inv),"##",(by obtain⟨o,e,c,d⟩:=st;exact ⟨o,e,λv z=>by rw[d]at z;cases z⟩),"#$",(by obtain⟨a,vs,rfl,qa,ra⟩:=bT rx),"#)",(by subst hb;rw[mup_same]at e;cases e),"#1",(by simp only[IW,JK,JR,J]at h ⊢),"#3",(by obtain⟨x,J,rfl⟩:=IH.mp ho),"#7",(by obtain⟨Y,L,_⟩:=jD wi q hq),"#8",(by exact hR M rl _ _ st hL .refl),"#>",(by obtain⟨od,af,hl⟩:=I.look),"#?",(by have c':=PB c;rw[HP c']at st),"#@",(by have c':=KM c;rw[HY c']at st),"!!",(by dsimp only;refine' DL.c0x (DL.fH KX G ?g) ?a ?i ?l ?c ?k ?mm ?kc ?b;(case g=>k_is);(case a=>k_is);(case i=>k_is);(case l=>k_is);(case c=>k_is);(case k=>k_is);(case mm=>k_is);(case kc=>k_is);(case b=>exact λ_ _ _ _ _ _=>DL.oG λ_=>rfl)),"!7",(by obtain⟨ob,eo,ec,ed⟩:=id g1;obtain⟨ot,zj,_,nt,zk⟩:=g2;unfold Builtin.SmallTypes.nextOf;refine HI (JZ (name:=kv!) g1.typeIs NW (JP NW g1.typeIs F.entry_tuple_iterator_next ?_ (F.args_tuple_iterator_next_1 _)));show wpAny _ _ (field (.ref jt) 0>>=_) _ _ s),"!8",(by refine dM b2! λv s1 ⟨x,H1,I1,r1,q1⟩=>?_;refine dM gh! λu s2 ⟨y,H2,I2,r2,q2⟩=>?_;exact hf v u s2 x y H2 I2 r1 r2 q2),"!;",(by intro h1 s Z H Q I h;refine W.methodCall_KW (pl:=pl) (dM c5_ λu s1 ⟨x,H1,I1,rx,a,dx,fs,ex,ea,l,q⟩=>?_) ht;subst ex;obtain rfl:u=Value.ref a:=rx;refine pL I1 ea c hm l ?_),"!>",(by obtain⟨v,rfl,r1⟩:=fL r;obtain⟨rfl,rfl,hM⟩:=cM r1 e1;obtain⟨es,Y,L⟩:=((m.cell q.1 _ hM)).2;obtain⟨ys,g1,g2⟩:=a1b L),"!?",(by have l2:=au.txt x;obtain⟨s,hj⟩:=a8h hw J a!;obtain⟨q,hq,e⟩:=IH.mp ((wi.ri x).mpr J);obtain⟨q1,p⟩:=q;have e':q1=x:=e),"!A",(by obtain⟨us,rv,p1,_⟩:=I.list qa;obtain⟨us',ak,p2,_⟩:=I.list qb;have Y:=aL rd;have L:=aL re;have h3:=gq_),"!C",(by unfold Builtin.SmallTypes.ownedTupleIsFree;refine HI (LB gz rfl (x:=.none) rfl ac_);simp only[JT];refine HI h5_;refine HI (LB gz rfl (x:=.ref TO) rfl ?_)),"!E",(by rintro⟨⟨⟩,h2⟩ s' ⟨rfl,a1,a2,a3⟩;dsimp only;obtain⟨L',b1,b2,b3⟩:=uK jw hk f9 a1 a3),"!H",(by intro h1 s Z H x y v u Q I rx ry h;obtain⟨i,j,rfl,rfl,q⟩:=h;show"!@";obtain⟨t',rfl⟩:=ry),"!I",(by show"!1";obtain⟨kb,lf⟩:=cQ hb;obtain⟨kc,SE⟩:=wQ bv;refine iY (bB.trans (congrArg some jH)) ?_;refine ifT (bB.trans (congrArg some a4q)) ?_),"!N",(by obtain⟨i,hi,q⟩:=nZ hb;obtain⟨p,ds,vs,Y,L,h3,h4,h5⟩:=er.own_ i hi;rw[q]at L;cases L),"!O",(by have l1:=congrArg List.length e;have l2:=congrArg List.length e';simp[Ju]at l1 l2;omega),"!R",(by obtain⟨cl,ce⟩:=b5d (X:=X) (scope:=scope) λp hp hf=>I.ok.has p.1 (io p hp hf)),"!V",(by simp only[(show Builtin.Dict_items.ownsTuple "dict_keyiterator"=false by decide),IW,JK];show wpAny G_ A.in1 (if(Value.ref d==dF!)=true then _ else _) _ _ s;rw[(HP (λz:(Value.ref d==Value.none)=true=>IN z))];refine HI (HK (HI (LX ui uj ?_)));rw[W_]),"!Y",(by have hT:=be.typeIs;obtain⟨o,ho,hc,hd⟩:=id be;obtain⟨od,ui,_,uj⟩:=id D),"!Z",(by refine HI (LB eo ed (x:=.ref tt) rfl ?_);rw[(HP (show¬((Value.ref tt==Value.none)=true)from IN))];refine HI (LB eo ed (x:=.int n 0) rfl ?_);refine HI (LV zj zk ?_);simp only[NJ,g3]),"!]",(by have I1:Inv X h1 Z H {s with heap:=h',toks:=tk}:=I.turned mG! f0 f1 f3 f4 f5),"!a",(by unfold wo;refine JX.mpr λq hq=>?_;simp only[ne_eq,decide_not,OL,LH,NY]),"!b",(by obtain⟨o,es,ep,ho,r⟩:=hm;refine ⟨o,es,ep,kp _ o ?_ ho,r⟩;simp only[HN,JF,KY,ON];exact ⟨HR fz.2.1,HR fO.2.1,HR f1.2.1,HR f2.2.1⟩),"!e",(by obtain⟨gr,H3,I3,n3⟩:=q3;obtain⟨m',hm,w3⟩:=hN gr H3 n3;exact ⟨m',hm,gr,H3,I3,w3⟩),"!j",(by obtain⟨i,hi⟩:=MY.mp hv;obtain⟨d,_,p⟩:=gP z hi;exact⟨_,_,p⟩),"!k",(by obtain⟨e,he,hv⟩:=hi.2 i acc[i] (by rw[JH Y]);rw[he,ND,JH Y,hv];rfl),"!l",(by have:X.env.scope.names.lookup x=some .free:=hk;rw[k]at this;cases this),"!m",(by have hf:=a8x x k;have hl:∀i∈plc es dv!,i<es.size:=λi hi=>b9m hi),"!n",(by obtain⟨v,rfl,r1⟩:=fL r;obtain⟨p,ys,rfl,q,rr⟩:=a2m sub m r1 e1),"!o",(by obtain⟨hi,r1⟩:=r1;obtain⟨p,dx,vs,rfl,rfl,hH,hl⟩:=a8k m1 q1 hi),"!q",(by simp only[sliceBounds,HT.sIx,Option.getD_none,(show(1:Int)>0 by decide),JT];by_cases h:i<0),"!r",(by show"!<";obtain⟨q,e2,e⟩:=HJ.mp e;obtain⟨ks',e3,rfl⟩:=HU.mp e),"!s",(by obtain⟨e1,e2⟩:=Y b hb hr;obtain⟨e3,e4⟩:=L b ok! e2;exact ⟨e3.trans e1,e4⟩),"!v",(by intro x J;obtain⟨r,f,p',g1,g2,g3,g4,g5⟩:=hA.row x J;exact os_),"!w",(by obtain⟨_,_,_,_,o,_,_,e,ex,_⟩:=I.hok p _ hk;exact⟨o,e,ex⟩),"!x",(by show (wpAny _ _ (field h5! 2>>=_) _ _ _);refine HI (LB gz rfl (x:=.bool false) rfl ?_);refine HI (LB gz rfl (x:=.ref TI) rfl ?_);refine HI (LV gI rfl ?_);refine HI ?_),"!~",(by show"!1";refine iY (bB.trans (congrArg some jI)) ?_;refine iY (bB.trans (congrArg some iL)) ?_;refine ifT (bB.trans (congrArg some a4r)) ?_),"#*",(by show pT_=_;rw[HP h0,HP Y,HP L,HP x3,HP x4,HP x5,HP x6]),"#+",(by obtain⟨oc,od,kV,br,pm,an,ag,ct,eh,rfl,lk,bz⟩:=F.ex),"#,",(by have rs:∀j∈rest,j<es.size:=λj hj=>L j (HL _ hj)),"#-",(by subst hj;rw[hi]at e1;cases e1;rw[KC UH]at e2;cases e2),"#/",(by unfold pyNext;refine HI (PK (JZ (name:=kv!) hT KN (JP KN hT QV ?_ (QR _))));refine HI (HK (HI gD!))),"#0",(by have ne:∀{b u},H b=some u->b≠p:=λe=>cN e hp),"#2",(by rw[HS,HS,<-h3,<-h4,<-Y,<-L];by_cases hl:h!=aj!),"#4",(by obtain⟨its,rv,⟨o,Y,L,n,h3⟩,_⟩:=I.tuple ko!),"#6",(by obtain⟨Y,L⟩:=hA.mq i hi;rw[aw _ qe_];exact p6_),"#:",(by cases eH ry;cases e;refine j_;rw[a0h rx];show"!t"),"#;",(by show"!?";subst e';obtain⟨_,sp,_⟩:=jD wi _ hq),"#=",(by rename_i kvs ep hM;obtain⟨kk,e1,e2⟩:=HJ.mp e),"#A",(by simp only[Op.nm,D.tup.injEq,MJ,D.int.injEq]at e),"#B",(by rw[rC lA_,rC lB!];exact b3j (mm p hp) (mm q a9)),"#E",(by have hi:i=fx_:=Nat.le_antisymm st.1 hg;subst hi),"#F",(by obtain⟨ad,kvs,vs,j6,VF,zh,zi,hn,hs⟩:=hd.ex),"#H",(by cases e;refine ⟨G,ρ,_,er,?_,k⟩;show((Option.some ds)).bind _=_;simp[hl])]
def z'0:String:=z [a!,(by omega),b!,Or.inl rfl,c!,List D,d!,(by simp),e!,Ae->Option D,g!,⟨rfl,rfl,rfl,gb!,rfl,gb!,gb!⟩,h!,ds.length,i!,List aD_,j!,Fl->Mh->Prop,k!,(by decide+kernel),l!,List Nat,n!,Aa 0,o!,List eL_,p!,["thing"],q!,List Str,r!,λ_ _=>rfl,u!,wl v_,v!,(by omega),w!,fC aN_,x!,Aa 2,y!,IM _,z!,Str->Option Value,A!,arrOf st,B!,.dct [] 0,C!,fC L_,D!,s1.heap.objs.size,E!,.fn p,F!,aA 0,G!,.inl rfl,H!,(by simp),I!,Aa 5,J!,[ak!,S!],K!,some i,L!,⟨_,rfl⟩,M!,Aa 3,N!,s2.heap.objs.size,O!,(by rw[hA.ro];simp),P!,.fn a,Q!,.bl false,R!,(by decide),S!,"name",T!,.lst xs,U!,.str k,V!,k+1,W!,cK 0,X!,[aS_,aR!],Y!,[J_,a2!],Z!,aA 1,Aa!,λj hj p e=>?_,Ab!,(by rw[cond,IF z]),Ac!,.inr ⟨j,v!,L,h3⟩,Ad!,λb o e hb=>?_,Ae!,⟨aw b ei!,hr⟩,Af!,(by rw[hA.rn];simp),Ag!,MS X own bj st q1,Ah!,L.ok M0 G0 F0,Ai!,.inl ⟨rfl,λj hj=>by omega⟩,Aj!,.lst ((eC_).drop a),Ak!,⟨G',ρ,M',R,sr.grow x m,r,k1,k2⟩,Al!,sr.grow x1 m1,Am!,⟨wt,wn,qa,g1⟩,An!,.Subscript o i p2,Ao!,(Ak eC! L_).bind z3_=_,Ap!,Vm X own own body q1,Aq!,De (knd "move"),Ar!,Gu (De (knd "set")) Uk,As!,Aa 2 ρ=some px_,At!,b=true->q1 ρ M R,Au!,⟨ng,cj.mr,as!⟩,Av!,∀cl C ao bc fp,Qd cb! de Au_,Aw!,Bf NL.length ix fi bnd ft fe,Ax!,∀K:D->Mh->Prop,fo ρ M K=K x M,Ay!,l.any λd=>En d x,Az!,(au_).length<5000,AA!,Wq X.prog X.w X.K X.mg X.base k x C ps g,AB!,(λd=>match d with|.int k=>D.tup AA_|_=>.non)∘λi=>D.int cS_,AC!,λK hK=>?_,AD!,wi.sg a ha q hq,AE!,s.heap.IsKeyIter it d i es.length ep,AG!,[B_,O_,AF_,fS_,y4,some lg_,hX_,y,none,none],AJ!,HK (HI (LZ ui uj ?_)),AK!,HK (HI (QZ hT ?_)),AL!,Obj.mapFields (·.setIfInBounds 1 AK_),AM!,(.tup yz_,.str ⟨#[s.cps.toList.getD k.toNat 0]⟩,true),AN!,.lst ((eE!).drop at_),AO!,s0.heap.objs.size,AP!,D.tup X!∉W.its,AQ!,decide (a=root),AR!,p1 (k:="put") (a:=a) (r:=[b]) rfl,AS!,.dct (eD_++[(.tup X!,.lst [])]) (Gs eD_ ad_ e1),AT!,.dct (h4_++[(.tup X!,.fn q)]) (Gs h4_ ad_ e2),AU!,W.its++[D.tup X!],AV!,IntsAre items.toList ns,AW!,.bl (if neg then !(b==c)else b==c),AX!,⟨by show _<=_;simp only;omega,same.its,same.txt⟩,AY!,Ti w x0 d nm,AZ!,.Call (.Attribute br! "insert" aj) [ek,e] [] ah,A0!,.Call (.Attribute br! "extend" aj) [e] [] ah,A1!,[B_,U_,some o.d,none,none,none,none,none,none,none],A2!,(show pF!=true from by decide+kernel),A3!,∀x,(kget wd x=none/\kget kb x=none)\/∃k:Str,kget wd x=some U!/\kget kb x=some fH!,A4!,mirror xs i j ((j - i) / 2),A5!,getElem?_pos _ k cx,A6!,Bg qx_ wt B!,A7!,.dct (k3 cQ_ fP_ eB_) 3,A8!,IJ.mpr ⟨JF,NS⟩,A9!,(λi h4 h5=>by rw[show i=x+1 - 1 by omega]),Ba!,(aH_).length<5000,Bb!,λi j h5 h6=>?_,Bc!,(∀i,i<lo->rk r y_ i<=rk r y_ k),Bd!,pendingOf h2,Be!,jJ [(t.B2,a)] (one ⟨_,i9,uA Y⟩) d!,Bf!,(by simpa using c),Bg!,(∀x∈xs,∀(R:β->Shared->Prop),(∀y,F x y->R y s)->wpAny r_ A (f x) R E s),Bh!,((hs os 5).length:Nat),Bi!,λv hv R hR=>?_,Bj!,(by show¬((0:Int)=5);decide),Bk!,(Value.type "int"::r),Bl!,(by show¬((5:Int)=15);decide),Bm!,(by show¬((15:Int)=5);decide),Bn!,l.filter λx=>Lj x p,Bo!,cs.set k (.int (c+1)),Bp!,.int (t+1+m / 3%3),Bq!,Y.mem_iff.mp (KS cx),Br!,dX rfl (dX rfl rfl c0u) rfl,Bs!,(c,seqObj "list" ku.toArray n),Bt!,[aa_,au!,ia_,none,none,none,none,none,none,none],Bu!,∀H':Hp,H' c=none->Ji X h1 H' c,Bv!,Inv X (h1++[lw!,Bu_]) Z H s,Bw!,ksk_tail a false e1 (.ref c) st,Bx!,Obj.mapSeq λ_=>(#[]:Array Value),By!,Array.toList_inj.mp,Bz!,Str.ofString "ours",BA!,Str.ofString "waiting",BB!,(Str.ofString "taken",.fn ta),BC!,λx y F Q J hy hq=>?_,BD!,(by rw[hsz];omega),BE!,⟨a1,a2,a3⟩,BF!,s.heap.get? a=some (seqObj "list" us.toArray n),BG!,⟨_,OF ha λ_=>#[]⟩,BH!,seqEpoch_at uq rfl ?_,BI!,wpAny_newTuple ?_ (by show aw!<=_;rw[JV];omega),BJ!,JI _ _ (λz=>hb (by rw[z];exact HZ.mpr rfl)),BK!,((eI!).length:Nat),BL!,eK bt_ qT_ (aP (sS o)) (wB hA),BM!,(by rw[JV];omega),BN!,gS (k:=qT!) ht rfl,BO!,(s1.heap.push cq!).update s1.heap.objs.size (Obj.mapSeq (·++bg_)),BP!,aP (d:=.int 2) rfl,BQ!,(by rw[(bP _).length_eq,JV];omega),BR!,ItemsOf qr! acc aj!]
def z'00:String:=z [a_,hr.mono b_,b_,(by decide),c_,(·.1),d_,Inv X h1 Z H s,e_,model X.prog X.w,f_,List Op,g_,Txt P w K mg t,h_,wl n!,i_,List Value,j_,⟨rfl,?_⟩,k_,HY rfl,l_,aB F!,m_,xs.length,n_,List V,o_,s.heap.objs.size,p_,aR _,q_,Value->Shared->Prop,r_,model prog w,s_,D->Mh->Prop,t_,some cE!,u_,aB Z!,v_,Aa 1,w_,List Int,x_,Al.units hr,y_,arrOf h2,z_,.bl true,A_,(·.2),B_,some bH_,C_,wl x!,D_,some N_,E_,Bd 0,F_,(x==("__debug__":Str))=false,G_,model P w,H_,aP (d:=P!) rfl,I_,aB aq_,J_,"hand",K_,Bk G H,L_,.int 0,M_,bI x_,N_,.fn o,O_,some x0,P_,List α,Q_,Cg 3,R_,some x1,S_,fC bx_,T_,Aa 4,U_,some o.v,V_,ps.length,W_,HP d!,X_,Bm t M yy a ta wa out S kl ca,Y_,Gl X x,Z_,oF a1 a2 a3 a4 a5 a6,Aa_,ifT (by rw[cond,IV z]) ?_,Ab_,Co G lb! G' H',Ac_,Vn M w rl W wt wn qa,Ad_,HP (λhr=>by rw[(s.root hr).2]at e;cases e),Ae_,λb _ hr=>Ae!,Af_,[B_,K!,cG!,ch_,none,none,none],Ag_,!decide (q.1=i),Ah_,[B_,K!,cG!,ch_,hX!,oD!,none],Ai_,(rs.take a++bR!::rs.drop a),Aj_,.lst ((eC_).take a++[Bh bR!]),Ak_,some (.inl (.inr "rows")),Al_,(Al!).grow x2 m2,Am_,λq=>decide hY_,An_,.write m3 x3.sub hM,Ao_,λd M' v G' H' r x m q=>?_,Ap_,De (knd "put"),Aq_,De (knd "drop"),Ar_,Av (Gu (De (knd "write")) Uk) Th (Av (Gu (De (knd "cut")) Uk) Xw Bn),As_,Gu (De ft) fu,At_,b=false->q2 ρ M R,Au_,Zi X.prog X.w X.K [] ft,Av_,∀cl C ao bc fp,ME cb! [] ez fe,Aw_,⟨p9.or.cap NL.length ix nv,m1,as!⟩,Ax_,Dt X.prog X.w X.K X.mg X.base k C m ps g,Ay_,⟨G,ρ,M,_,st,e',λd M1 v G1 H1 r1 x1 m1 q1=>?_⟩,Az_,L _ _ _ _ _ _,AA_,[fq!,fq_,.int (z+k)],AB_,(d==sysModules)=false,AC_,(s,c,b&&!decide (s∈cy)),AD_,show Be q=.tup zX_ from rfl,AE_,l[j]?.map c_,AF_,some (.tup [ko_,a0,b,tx]),AI_,decide ((l[k]).1=b),AJ_,(show¬((i:Int)<0)from by omega),AK_,rawInt ((i:Int)+1),AL_,[B_,O_,fT!,bq_,y4,h2!,some L_,none,none,none],AM_,[aS_,aR!,.int bg!],AN_,.lst ((eE!).take at_++nw.map Be),AO_,.lst ((wrT b nw au_).map Be),AP_,(λi v=>∃c u,x.cps[i]?=some c/\v=.str ar! u),AQ_,D X.A.in1 hh,AR_,.int (q.2:Nat),AS_,[AR_,.str ⟨#[q.1]⟩],AT_,λi h ⟨o,ho,_,hd⟩=>⟨o,ho,λv z=>by rw[hd]at z;cases z⟩,AU_,HP (λz:i=.tup [.int h,.int n]=>hn (z▸hi)),AV_,IntsAre ju.toList ms,AW_,Value.bool b==Value.bool c,AX_,⟨same.rows,same.its,jL!⟩,AY_,List.take_of_length_le d!,A0_,[B_,U_,none,none,none,none,none,none,none,none],A1_,(show pE_=true from by decide+kernel),A2_,∀K:Bool->Mh->Prop,K b M->ft ρ M K,A3_,Et x.d=none/\¬kget wd x.nm=some bk_,A4_,(by simpa using c'),A5_,(by rw[zG!];exact g4),A6_,Bg A6! wn B!,A7_,λi j h3 h4=>?_,A8_,(show x - 1<a0.size by omega),A9_,.str "numbers",Ba_,h m st b h3 h4 u,Bb_,s.cps.toList.map λ_=>.bl true,Bc_,⟨rfl,lo,lo,rfl,g2,g4,g5⟩,Bd_,(none,a0.size),Be_,λ_ _ z=>z,Bf_,a0p (HK (HK (HK h))),Bg_,((hs os 0).length:Nat),Bh_,((hs os 15).length:Nat),Bi_,ys.toArray.filterMap id,Bj_,(by show¬((0:Int)=15);decide),Bk_,(by show¬((5:Int)=0);decide),Bl_,(by show¬((15:Int)=0);decide),Bm_,fx ρ=some cH!,Bn_,l.filter λx=>Lj x q,Bo_,λp=>Jp qI! (Mb h p.1),Bp_,ts.set k Bp!,Bq_,⟨[a],[(Str.ofString "key",v)]⟩,Br_,Fq X.prog X.w X.K X.mg X.base Qf k f fd ps wN_,Bs_,[aa_,au!,ia_,f0!,some (.lst [.int c0,.int c1,.int c2]),some (.lst [.int t0,.int t1,.int t2]),x6,x7,x8,x9],Bt_,λa b e=>?_,Bu_,(c,seqObj "list" ku.toArray e),Bv_,Ab f1 (Ab f2 Af),Bw_,Ab f1 (Ab f2 (Ab f3 Af)),Bx_,List.map_fst_zip qP!,By_,λv hv=>?_,Bz_,Str.ofString "taken",BA_,Mb s.heap p.1,BB_,⟨Array.Perm.refl _,rfl,rfl,rfl⟩,BC_,(by rw[hsz];exact oq),BD_,Jp id_ (Mb s.heap p.1.1)<Jp id_ (Mb s.heap q.1.1),BE_,(by rw[b3,hd]),BF_,∀b,M b≠none->M' b=M b,BG_,OV ha rfl ?_ lu! cj_,BI_,QU ha rfl ?_,BJ_,HM _ ((BJ!).trans q),BK_,s.heap.IsList l cD!,BL_,checkCount "sorted" 1 1 _,BM_,⟨_,lh,rfl⟩,BN_,x1.sub.seq sq,BO_,seqObj "list" its.toArray 0,BP_,(BO!).push BO_,BQ_,.obj t.B3 [f0_],BR_,JW (by rw[JU,hi.1];omega)]
def z'a:String:=z [aa!,DE X own a fa,ab!,(a,b),ac!,HY a!,ad!,ys.length,ae!,List DictEntry,af!,Array Value,ag!,.ref a,ah!,List eb_,ai!,List D->Option D,aj!,es.length,ak!,"self",al!,OS t M a o rl W,am!,(by simp;omega),an!,aB aD,ao!,Option D,ap!,some E!,aq!,[a,b],ar!,⟨#[c]⟩,as!,λi hi=>(by cases hi),at!,A.units<cLine,au!,some kz_,av!,l.length,aw!,us.length,ax!,List Env,ay!,"_law_item",az!,starEach aO! X.env=e6!::starEach es X.env,aA!,bZ x_,aB!,(by rw[hA.r2];simp),aC!,s.length,aD!,Db x=some k,aE!,ME X own a fa,aF!,"_law_k",aG!,aK az_,aH!,Or.inr rfl,aI!,[bh_],aJ!,⟨trivial,?_⟩,aK!,(by rw[u5];simp),aL!,X.A.units+64<cLine,aM!,EP X h1 Z Q,aN!,Ac n! Ag,aO!,(e::es),aP!,HY hk,aQ!,aA 5,aR!,.int n,aS!,(by rw[hA.r5];simp),aT!,Co.refl sub,aU!,Ae->Option Fl,aV!,List ci!,aW!,[ak!],aX!,f2 Ak n! C!,aY!,Ab h_ Af,aZ!,x∈W.its,a0!,(by rw[hA.r4];simp),a1!,os.map Op.v,a2!,"item",a3!,I.tok _,a4!,X.calm=true,a5!,i+1,a6!,f2 Ak x! al_,a7!,Aa 9,a8!,aN aH aM F! aD r!,a9!,aB aS]
def z'aa:String:=z [aa_,some (scr ns),ab_,Br M w rl W,ac_,HK ?_,ad_,.tup X!,ae_,λ_=>True,af_,[J_],ag_,o_+1,ah_,Ae->Option Bool,ai_,D->Ae->Option Ae,aj_,.ref f,ak_,X.N[i]?=some x,al_,fC bi!,am_,Ab u! Af,an_,f ρ,ao_,(by rw[u3];simp),ap_,os.length,aq_,aA 2,ar_,aC u_ aI,as_,Ae->Option aR_,au_,W.txt a,av_,rs.length,aw_,List Addr,ax_,[J_,cq_],ay_,.ref C,az_,aK (λ_ _ h=>aW h),aA_,Cf t M o rl W B,aB_,(by rw[hA.r6];simp),aC_,some (.lst ops),aD_,D×D,aE_,kvs.length,aF_,HP hk,aG_,λx J=>?_,aH_,W.txt x,aI_,some x,aJ_,(by rw[u4];simp),aK_,.nx ρ,aL_,HZ.mp z,aM_,aP (d:=x) rfl,aN_,.int 1,aO_,wl M!,aP_,aB ba!,aQ_,Ju xs,aR_,List D,aS_,.int h,aT_,.str s,aU_,HL _ J,aV_,some bS!,aW_,[ak!,a2!],aX_,r.length,aY_,fI x_,aZ_,(by rw[hA.r3];simp),a0_,.rt d,a1_,[eM_],a2_,PE X a ta,a3_,λ_=>some true,a4_,wl T_,a5_,wl C!,a6_,(vJ!).any c_=false,a7_,Option Addr,a8_,Option Int,a9_,aN aH aM aq_ aD r!]
def z'b:String:=z [ba!,aA 3,bb!,.fn r,bc!,Fo W n rows',bd!,D->D->Option D,be!,List MK,bf!,Mh->D->D->Option D,bg!,((k:Nat):Int),bh!,[cq_],bi!,.int 3,bj!,Aa 6,bk!,λρ M R=>R true M,bl!,[d1!],bm!,aB a9_,bn!,List fi_,bo!,Addr->Nw,bp!,i∉own,bq!,B+20,br!,.Name x cf,bs!,Db d=some k,bt!,[O_,K!,cG!,ch_,hX!,k2_,y],bu!,mixKind P w,bv!,Ov P w H h,bw!,Wv X.env.scope x,bx!,.int i,by!,Ap S_,bz!,λb hb=>?_,bA!,g i j,bB!,vs.length,bC!,Az jg_,bD!,aB bC_,bE!,aA 8,bF!,aG (bA d6!),bG!,(by rw[v3];simp),bH!,ep+1,bI!,.tup xs,bJ!,[J_,mb_],bK!,List Expr,bL!,I.ok.hd hc,bM!,Cg 2,bN!,eU I q d!,bO!,its.toArray.size,bP!,Array DictEntry,bQ!,K w.params,bR!,(i,p),bS!,.fn q,bT!,(by rw[hA.r1];simp),bU!,.type "int",bV!,.type "str",bW!,M p=some hQ_,bX!,[R_,ap!,U_],bY!,ME X own e f,bZ!,u.length,b0!,[B_,O_,some es!,bq_,some (.bl g),none,none,none,none,none],b1!,[J_,a2!,"place"],b2!,ha h1 s Z H _ I h,b3!,[b2_,ay!],b4!,.ref it,b5!,[.int 3,.int 1],b6!,Al k X.A,b7!,iC x_,b8!,fA (bM aA! cB a9_ aS p_),b9!,(by rw[q];simp)]
def z'bb:String:=z [ba_,.lst ys,bb_,(x,p),bc_,.fn o,bd_,(λ_ _ e=>by cases e),be_,srt ops,bf_,Mh->Prop,bg_,its.toArray,bh_,"_law_ops",bi_,⟨rfl,rfl⟩,bj_,Aa 8,bk_,.str "undo",bl_,w2 Bt h_ ji!,bm_,bX M_ bH l_ a9! r!,bn_,u++v,bo_,λb h=>?_,bp_,W.txt i,bq_,some ad_,br_,some (.int most),bs_,mup_ne hb,bt_,aP rfl,bu_,fs.length,bv_,X.N.Nodup,bw_,Bu v u,bx_,.int 2,by_,Ib false,bz_,Ac x! Ag,bA_,f2 Ak x! C!,bB_,.Call (.Name x p) aO! [] pos,bC_,aA 4,bD_,aA 6,bE_,Ad st,bF_,⟨_,_,rfl⟩,bG_,λd hd=>?_,bH_,.fn w,bI_,k _ _ G! e,bJ_,"_law_script",bK_,.bl b,bL_,Aa 7,bM_,Wd os,bN_,aE F! aJ,bO_,aC l_ aI,bP_,[D.non],bQ_,Dg st,bR_,W.num x,bS_,Ew W x,bT_,.ref ae,bU_,.type "bool",bV_,.type "tuple",bW_,some (.int m0),bX_,Cw X.K G d u,bY_,MR X.prog X.w X.K M G H,bZ_,Jt P w K own M0 G0 F0 M G H Z ρ,b0_,[J_,cY_],b1_,List Stmt,b2_,"_law_world_here",b3_,wl cg!,b4_,wl e1!,b5_,Gx X (compareOp op) r,b6_,Array t8_,b7_,ns.map V.int,b8_,λ_ _ _ _ _=>oQ,b9_,absurd z.symm q1]
def z'c:String:=z [ca!,scope.names,cb!,Nu X scope cl C g3! ao bc fp,cc!,W.rows.length,cd!,.lst ds,ce!,some om!,cf!,ρ.set i eg!,cg!,fC .non,ch!,.int 0,ci!,Str×D,cj!,some pa_,ck!,[aS_,el_],cl!,Db y=some k,cm!,MR P w K M G H,cn!,M a=some hQ_,co!,.fn w,cp!,SB kd a0 st,cq!,seqObj "list" #[] 0,cr!,"_law_one",cs!,PE X b tb,ct!,(x==("__classdict__":Str))=false,cu!,.int i,cv!,PE X e te,cw!,Ay t.B4 "rows" h_,cx!,Cg 4,cy!,y.length,cz!,aB dJ,cA!,λx=>!x.1,cB!,λx=>x.1.isSome,cC!,.inl z,cD!,us.toArray,cE!,.fn a,cF!,mup_ne L,cG!,some p,cH!,.int j,cI!,.Name x p2,cJ!,(by rw[v4];simp),cK!,(by rw[v5];simp),cL!,Bi d=true,cM!,Rt W pre,cN!,λ_=>true,cO!,some hK_,cP!,ME X own b fb,cQ!,ME X own o fo,cR!,[some eC!,aI_],cS!,.nx ρ',cT!,[some h1!,li!],cU!,lo+hi,cV!,Cw X.K G,cW!,f1!<64,cX!,α->β->Prop,cY!,IQ e,cZ!,Unit->Shared->Prop,c0!,.inl rfl,c1!,"_law_number_here",c2!,"_law_other",c3!,"_law_hand",c4!,x≠"__name__",c5!,fC (.int 4),c6!,Ay t.B5 "following" h_,c7!,∀x,foldedSetIterable iter X.env x=pure x,c8!,Ay t.B3 "taken" h_,c9!,ns.length]
def z'cc:String:=z [ca_,.inl z,cb_,⟨rfl,h⟩,cc_,aA 9,cd_,mup_ne Y,ce_,OR K own G H Z ρ,cf_,f ρ=some d,cg_,.tup j5_,ch_,some s,ci_,(.str k::r),cj_,JS _,ck_,[ey!],cl_,λz=>?_,cm_,q1.mono x2.g,cn_,l[j],co_,Array Keyed,cp_,(s.heap.update a Bx!).push (seqObj "tuple" us.toArray 0),cq_,"operation",cr_,Hist S,cs_,Wu X.env.scope x,ct_,.Name x pos,cu_,[P!,x],cv_,Az u!,cw_,wl I!,cx_,.str "redo",cy_,vs.toArray,cz_,aB aQ!,cA_,backToKw ah tB_,cB_,[cr!],cC_,im x,cD_,An K H ds vs,cE_,H p=none,cF_,Ax K G d v,cG_,DE X own b fb,cH_,cs.length,cI_,if Ew W a then a else binn,cJ_,n+1,cK_,[none],cL_,some item,cM_,.type "tuple",cN_,kr!<64,cO_,x1.trans x2 m1,cP_,.int o.h,cQ_,.lst [],cR_,acc.length,cS_,((i:Nat):Int),cT_,Pw W B,cU_,λx J hh=>?_,cV_,(by simpa using e),cW_,h.objs.size,cX_,upd H a o,cY_,"other",cZ_,[ak!,a2!,"parent",l7_],c0_,List V->Hp->Prop,c1_,[bJ_,aF!],c2_,[b2_,ay!,wk_,wl!],c3_,X.mg x=none,c4_,Bl (fC Q!),c5_,he h1 s Z H _ I h,c6_,.ref o_,c7_,50<=tu,c8_,Ab h_ am_,c9_,[pO tp]]
def z'd:String:=z [da!,.ref p,db!,vs++dvs,dc!,A.handled=none,dd!,⟨rfl,rfl,rfl,rfl⟩,de!,aE aq_ aJ,df!,dH 3,dg!,aA 7,dh!,dF _ _ ca_,di!,Cm X scope NF ix,dj!,∀y∈ca!,y.2≠.cell,dk!,wo rows i,dl!,Str.ofString "rows",dm!,.tup ds,dn!,(by rw[g3];simp),do!,.int m,dp!,s1.trans s2,dq!,.Name x p2,dr!,Db a=some ka,ds!,En d d',dt!,HY hx_,du!,q2 ρ M R,dv!,mkHash P w k,dw!,⟨by simp[big];omega,?_⟩,dx!,[R_,ap!,aV_,U_,kP!],dy!,λx J=>fJ!,dz!,aE_<big,dA!,Addr->LR,dB!,[B_,O_,AF_,fS_,y4,some lg_,hX_,k2_,none,none],dC!,λc=>?_,dD!,Int×Int,dE!,hF yy ta wa out,dF!,Value.none,dG!,Ow a ta wa bn bo,dH!,a==sysModules,dI!,NG _,dJ!,some v,dK!,["sign"],dL!,.str x,dM!,.Compare a [op] [b] pos,dN!,f2 Ak n! w!,dO!,.fn t.A0,dP!,Ac v_ Ag,dQ!,eval o X.env,dR!,Ab C_ Af,dS!,IP _ rfl,dT!,(false,eval a X.env),dU!,List V->Hp->VK->Prop,dV!,tu<=58,dW!,[uO tu g],dX!,os++dW!++[dW_],dY!,.dK kvs,dZ!,Ab h_ mD!,d0!,List (Str×Value),d1!,.ref a,d2!,Fc X.K fd ps ds,d3!,Mj CX X E,d4!,.ref b,d5!,bF T.V3 T.W8 l_,d6!,aB eE,d7!,([]:List Keyword),d8!,⟨_,e,rfl⟩,d9!,aB n0!]
def z'dd:String:=z [da_,ps.zip us,db_,⟨us,[]⟩,dc_,dP aD,dd_,items.size,de_,.ref o_,df_,bF T.V5 T.V6 l_,dg_,aG gG,dh_,dF _ _ fj_,di_,scope.kind=.function,dj_,X.pn++h1,dk_,(s,p),dl_,.lst g8!,dm_,.lst vs,dn_,er.grow s1,do_,DE X own e f,dp_,.str s,dq_,wl fo,dr_,λb h=>.inl h,ds_,scr ns,dt_,Str.ofString "",du_,Hs ks k,dv_,Ux W x,dw_,λ_ K hK=>?_,dx_,(d,x),dy_,kget kvs d,dz_,some x.nm,dA_,[B_,K!,aI_,ch_],dB_,dE d es ep,dC_,Ur prog w A s a0 kd r,dD_,.inr G!,dE_,.int i t,dF_,Ow a ta wa kl ca,dG_,Str×V,dH_,List β,dI_,X.s₀.heap.objs.size,dJ_,ms.map Op.v,dK_,Bool->Hp->Prop,dL_,behindInMarks op b=false,dM_,f1 Bp aN!,dN_,f2 Ak n! S_,dO_,aP (d:=co!) rfl,dP_,.str "cut",dQ_,aP (d:=q1) rfl,dR_,Nat->Heap->Prop,dS_,.int j,dT_,f2 Ak x! S_,dU_,Az C_,dV_,os++dW!,dW_,rO rh rn g,dX_,xs.isEmpty,dY_,wl w!,dZ_,Sem Bool,d0_,Uu X.K C,d1_,Fq X.prog X.w X.K X.mg X.base CX k f fd ps sp,d2_,Bc dvs ds,d3_,.type T,d4_,.str "rows",d5_,aG (bA u_),d6_,.type "list",d7_,nO_=true,d8_,aC l_ ar_,d9_,Aj N ps bE_]
def z'e:String:=z [ea!,Ej t M r f p xs,eb!,HL _ hy,ec!,Nu X scope cl G2.objs.size g3! s2 H2 fp,ed!,Str.ofString "parents",ee!,[bc_,x],ef!,HY am!,eg!,some d,eh!,i∈own,ei!,(by rw[hr];simp),ej!,(by rw[g5];simp),ek!,Im X.K r g,el!,List.range m.toNat,em!,sgn h n,en!,some b,eo!,.lst wZ!,ep!,.dct (As k4 n bS!) e4,eq!,λd hd=>?_,er!,Ax X.K H d v,es!,.tup [hw!,a,b],et!,Sum.inr y,eu!,LC ..,ev!,HY (by simp only[IE];omega),ew!,Ko P w s.heap k u,ex!,ops.map Op.v,ey!,.lst ex!,ez!,some o.v,eA!,A.units+1<cLine,eB!,Bg M p B!,eC!,Bh q,eD!,[O_,K!,cG!,ch_,hX!,hX_,k2_],eE!,(au_).map Be,eF!,B<3800,eG!,arrOf bh,eH!,Jb g,eI!,hs S h,eJ!,((eI_).length:Nat),eK!,(f4!).zip ds,eL!,List dG_,eM!,λp hp=>?_,eN!,Z.set i dJ!,eO!,Bc vs us,eP!,"_law_deed_here",eQ!,.BoolOp .And (b::rest) pos,eR!,.BoolOp .Or (b::rest) pos,eS!,.UnaryOp .Not a pos,eT!,fC gk!,eU!,Oo i,eV!,some x,eW!,some (.fn b),eX!,wl (fC z_),eY!,fC bk_,eZ!,Value->Value->Sem Value,e0!,Ac M! Ag,e1!,f2 Ak x! w!,e2!,∀x∈S,x.tm<=B,e3!,some aj_,e4!,.ins C dx fs,e5!,backToKw pos tB_,e6!,(false,eval e X.env),e7!,PA X aO! t,e8!,bE (bW eE),e9!,Ap I!]
def z'ee:String:=z [ea_,kput_len _ _ _,eb_,D×D×Bool,ec_,a∈W.its,ed_,Str.ofString "texts",ee_,(d::ds),ef_,λ_ h=>.inl h,eg_,srt S,eh_,i∈W.its/\Ew W x/\¬Wn W.rows i x,ei_,(by rw[g4];simp),ej_,λq hq=>?_,ek_,.tup jY!,el_,.int m,em_,k _ G H aT! Ax.int,en_,s.cps.toList.zipIdx.map em!,eo_,Bg (Bg M5 a3 oI!) q eo!,ep_,k _ G H aT! Ax.bl,eq_,some n,er_,(by simp;omega),es_,.tup [.str "cut",a,.tup jY!,el_],et_,.str "undo",eu_,.tup ci_,ev_,Bool->Shared->Prop,ew_,λK hK=>?_,ex_,(pF_).Nodup,ey_,{s with toks:=tk},ez_,l.map c_,eA_,[R_,D_,aV_,some x.v,dz_],eB_,.fn wn,eC_,rs.map Bh,eD_,W.its.map λi=>(i,D.lst k7_),eE_,ms.length,eF_,j - 1,eG_,(a,oa),eH_,l.map f,eI_,hs S o.h,eJ_,es.map kL!,eK_,xs++ys,eL_,Addr×Obj,eM_,"operations",eN_,"outline",eO_,eval e X.env,eP_,"_law_gone",eQ_,.BoolOp .And (a::b::rest) pos,eR_,.BoolOp .Or (a::b::rest) pos,eS_,[t_,aI_,some mp!],eT_,J x HQ,eU_,[v,ov,iv],eV_,Ay t.B4 "texts" h_,eW_,⟨_,dS!,rfl,rfl⟩,eX_,Ib true,eY_,srt os,eZ_,Ep n!,e0_,binaryOp .Add,e1_,(show false=true from hs),e2_,x.length,e3_,s.heap.push iZ_,e4_,λ_=>rfl,e5_,(x::xs),e6_,us++ds,e7_,JM gK_,e8_,.builtin id,e9_,aG (bA I_)]
def z'f:String:=z [fa!,Ap bj!,fb!,bF T.V4 T.V9 l_,fc!,⟨.bl _,H,I,rfl,?_⟩,fd!,if(d7!).isEmpty then 0 else 1,fe!,He t,ff!,.ref fa,fg!,λa b=>?_,fh!,As kp n a0,fi!,aN aH aM Z! aD r!,fj!,List vJ_,fk!,D×D×Bool,fl!,.lst bR_,fm!,upd H p o,fn!,⟨1,?_⟩,fo!,Lf own Z G H,fp!,cW (HR c),fq!,.int x,fr!,fs ρ,fs!,(λz=>nomatch z),ft!,if x=n then _ else _,fu!,f1 ρ=some a,fv!,V.ref p,fw!,(by show A.units+1+Dq xs<cLine;omega),fx!,.str "root",fy!,.int (i:Nat),fz!,some (.lst kinds),fA!,Option Value->Shared->Prop,fB!,[z,TO,i1,i2],fC!,h.Ns mainGlobals mg,fD!,(kG_).Nodup,fE!,IF d!,fF!,(none,()),fG!,JX.mpr r!,fH!,.bl hH_,fI!,Hz P w K G kvs es,fJ!,(by simp[W0]at J),fK!,Bq ed! fJ_ [],fL!,cY h5,fM!,Uy X.K H dx,fN!,Db y,fO!,.int o.tm,fP!,W.rows.map Bh,fQ!,qa i,fR!,[B_,K!,cG!,ch_,hX!,hX_,y],fS!,(by rw[IK];unfold big;omega),fT!,some fw_,fU!,⟨rfl,k⟩,fV!,wpS_get ?_,fW!,(show i=j by omega),fX!,(t.A0,a),fY!,eW Y,fZ!,L'.length,f0!,some ia!,f1!,S.length,f2!,Cw K G,f3!,a==b,f4!,us.zip us,f5!,((eK!).map A_).map Nv,f6!,.own a,f7!,List α->Prop,f8!,bD (cN q hn),f9!,Z.length]
def z'ff:String:=z [fa_,aC I_ aI,fb_,Hk t,fc_,.inr rfl,fd_,iM x_,fe_,As l d v,ff_,Kc aQ_,fg_,As kf a0 n,fh_,Bk H H',fi_,Str×Addr,fj_,.inr z,fk_,Str.ofString "numbers",fl_,V.ref a,fm_,Bk.refl G,fn_,aC l_ nI_,fo_,Db i=some ki,fp_,fa ρ,fq_,.int y,fr_,(by rw[q3];simp),fs_,⟨G,ρ,_,er,e1,wG_⟩,ft_,SR K own G0 F0 G H Z ρ,fu_,[D_,eq_,some a,en!,some pl],fv_,Bi d'=true,fw_,.tup z4!,fx_,x.cps.size,fy_,Dl N,fz_,some 1,fA_,.Tuple jp n1 tp,fB_,K.In h,fC_,List Uo,fD_,IV rfl,fE_,λi hi=>?_,fF_,λK hK=>hK,fG_,.int o.h,fH_,kvs.map c_,fI_,Jc kvs,fJ_,.fn a1,fK_,Bool->Mh->Prop,fL_,h3.typeIs,fM_,Jf kO! be_,fN_,.int (k:Nat),fO_,st.grow x1 m1,fP_,.fn wt,fQ_,rs[k],fR_,[B_,aI_,K!,y],fS_,some nm,fT_,[some h1!,fT!,bq_],fU_,Keyed->Int,fV_,n<=a0.size,fW_,(by unfold Yg;omega),fX_,⟨_,i1,pN Y⟩,fY_,List h9_,fZ_,IA _ (IA _ d!),f0_,(Str.ofString "ours",.int yy),f1_,Addr->Prop,f2_,eO bt_ hA.ob hF2,f3_,us.toArray.zip cD!,f4_,Bg M q cQ_,f5_,tupleKind bu!,f6_,.ref x,f7_,[a,b,c],f8_,.frz o u,f9_,ms.map Op.nm]
def z'g:String:=z [ga!,ms.map λo=>l0_,gb!,(by decide+kernel),gc!,["parts","checks"],gd!,[ak!,a2!,"parent"],ge!,[eN_,S!,"deed"],gf!,[ak!,"ours"],gg!,[J_,"above",l7_],gh!,hb h1 s1 Z H1 _ I1 q1,gi!,aP (d:=bc_) rfl,gj!,fC (.int 16),gk!,.str "root",gl!,X.wish E,gm!,[t_,R_,B_,aI_],gn!,Iu t,go!,PassesOwn e_ X.A X.env X.xe,gp!,De (Cz (fT iF_) iJ!),gq!,Cd t,gr!,(by simpa using hb),gs!,2 ^ 62,gt!,Ac T_ Ag,gu!,Op->Op,gv!,f2 Ak a6! C!,gw!,i.natAbs,gx!,Ab b4_ (Ab gw_ (Ab (wl a6!) Af)),gy!,As [] g bk_,gz!,List (κ×V),gA!,kr.map (lt S),gB!,Ay t.B3 "waiting" h_,gC!,.int n,gD!,HI ?_,gE!,some q2,gF!,getMethod ov m pl,gG!,Ac aX! (Ac dN! Ag),gH!,.int 9,gI!,I.hok.fresh y!,gJ!,envOfC qual scope s.heap.objs.size f cd,gK!,Na N vs,gL!,cH cR eJ rfl T.S9 eG bN_,gM!,.int a t,gN!,wl (fC d4_),gO!,w2 by_ b4_ bl_,gP!,f2 Ak v_ S_,gQ!,.str ar!,gR!,Mc t,gS!,Ht t,gT!,aC bm! (aC bm! js_),gU!,⟨e,?_⟩,gV!,"names",gW!,λ_ _ _ _ _=>l_,gX!,.bool true,gY!,Te al.heap H,gZ!,aB a8!,g0!,aB fi!,g1!,K.f _ _,g2!,HY g1_,g3!,NL++NF,g4!,i∈W.its,g5!,G2.objs.size,g6!,∀cl C ao bc fp,PG cb! tg g,g7!,aE wa_ aJ,g8!,chl W.rows x,g9!,Sa t M o rl W B a1 a2 a3 a4 a5 a6 k1 k2 k3 k4 k5 k6]
def z'gg:String:=z [ga_,(by simp[z]),gb_,["thing","limit"],gc_,[ak!,S!,a2!],gd_,[ak!,a2!,"place","number"],ge_,"left_out",gf_,[ak!,cY_],gg_,[oi_,c1!],gh_,"_law_at",gi_,PT X a tA,gj_,.bl true,gk_,Zg W V,gl_,Br M w ak V,gm_,S++[o],gn_,Pw W 1500,go_,It->Hp->Prop,gp_,Am 1 iJ_,gq_,rv.length,gr_,aP (d:=.fn b) rfl,gs_,wl bj_,gt_,(∀b∈fp,H' b=none),gu_,f2 Ak iE_ C!,gv_,Am 4 (wl (Dp M! Aq by!)),gw_,wl dT_,gx_,.str "write",gy_,i != 0,gz_,Fb t,gA_,lt S k0,gB_,((hs S yy).length:Nat),gC_,wl ta!,gD_,Ia (Ep v_),gE_,aj.atName,gF_,Al k A,gG_,PA X es t,gH_,Al V! X.A,gI_,Aa 10,gJ_,(nn!).map Op.v,gK_,(by simpa using hi),gL_,Cg 6,gM_,λ_ _ _ _ _=>a7c,gN_,f1 Bp gt!,gO_,Um xs lo hi,gP_,.str ar!,gQ_,El t,gR_,Yz x,gS_,[.ref p],gT_,its.length,gU_,aB jt_,gV_,aE Z! aJ,gW_,Gv l d,gX_,⟨t,rfl⟩,gY_,absurd z.symm q2,gZ_,W.keepIn K aj_=true,g0_,NameKind.free,g1_,(by rfl),g2_,ce.sub x c h,g3_,Qe rows i p s rows',g4_,.ListComp ez v0! scope pos,g5_,∀y∈ca!,y.2=.free->v7_,g6_,jX T,g7_,fw _ I2.lt,g8_,bM aA! cB cc_ aS p_,g9_,x∈W.its]
def z'h:String:=z [ha!,aA 10,hb!,ρ.length,hc!,Tj nl ix ρ,hd!,λ_ _ _ h=>h,he!,r1.mono s2.g,hf!,w.nm i hi,hg!,ft ρ,hh!,B<3900,hi!,U++v,hj!,(by rw[q4];simp),hk!,sub.free hp,hl!,s.cps.toList.length,hm!,(by rw[z]),hn!,qH T,ho!,Fo W x rows',hp!,Co.laid x.sub hp,hq!,f2 ρ=some b,hr!,starEach (e::[]) X.env=e6!::starEach [] X.env,hs!,Rp F0 G1,ht!,An X.K H ds vs,hu!,Ax X.K H d' v',hv!,.int k,hw!,.str "put",hx!,.tup [o8_,a],hy!,.Name y py,hz!,s.heap.IsTuple l1 xs,hA!,(if _<=big then _ else none)=_,hB!,⟨hp,g,d,tk,os⟩,hC!,BC s.heap l1 l2,hD!,λc o e=>?_,hE!,s.cps.toList.zipIdx.map kD!,hF!,(show u=.none from J),hG!,Mx ks k,hH!,.int o.tm,hI!,(be_).map Op.v,hJ!,DG o.d,hK!,∀o∈ops,DG o.d,hL!,wl fb,hM!,[root,binn],hN!,.fn a2,hO!,f ρ M R,hP!,MA X own es fs,hQ!,MT X own a ft,hR!,sN I sub r hk,hS!,(x::os),hT!,MA X own aO! fs,hU!,some (.lst zP!),hV!,Ee M1 d,hW!,k3 (.lst fP!) fP_ eB_,hX!,some (.lst eC_),hY!,Bg M p (.dct (As kvs y v) (Gs kvs y ep)),hZ!,kget kvs y,h0!,Gj own Z H1,h1!,.int bg!,h2!,some (.lst eE!),h3!,[h2_,some h1_],h4!,[B_,O_,some es!,bq_,none,none,none,none,none,none],h5!,.ref z,h6!,a0.toList,h7!,mup_ne a1,h8!,hs os h,h9!,HW i os c0 c1 c2 t0 t1 t2]
def z'hh:String:=z [ha_,Ax K H d v,hb_,(λr M'=>match r with|.rt d=>R d M'|.nx _=>R .non M'),hc_,Co.refl er.sub,hd_,bF T.V3 T.W9 l_,he_,s2.trans s3,hf_,.tup jX_,hg_,DT X own a ft,hh_,[fq!,fq_,.int (z+(k:Nat))],hi_,(by simp[e]),hj_,(by rw[q5];simp),hk_,.tup X!,hl_,.dct oH! e2,hm_,mup_ne h6,hn_,λx ie hy=>?_,ho_,if x=x then _ else _,hp_,.obj C fs,hq_,er.grow x,hr_,(backTo ah tU!).any c_=false,hs_,ds.map some++List.replicate (i9_ - h!) none,ht_,An X.K H es ws,hu_,Bu v' u',hv_,(aX_:Int),hw_,.tup [o8!,a,b,c],hx_,(by unfold big;omega),hy_,cs.map λc=>(ar!:Str),hz_,s.heap.IsTuple l2 ys,hA_,fs ρ=some ds,hB_,bN rfl rfl,hC_,λc hc=>?_,hD_,bK ve,hE_,(show v=.none from hy),hF_,ks.Nodup,hG_,.inl fj_,hH_,k=="undo",hI_,Pi s.heap a es ep,hJ_,λx J=>hd x aU_,hK_,.lst ex!,hL_,wl fa,hM_,Tl P w K own G H Z ρ M,hN_,Bq dl! hN! fK!,hO_,"texts",hP_,Yf X.prog X.w X.K r gm,hQ_,.dct kvs ep,hR_,(o::os),hS_,Mh->List D->Option D,hT_,KS _,hU_,some cQ_,hV_,k3 a b c,hW_,.tup aq!,hX_,some (.int (a:Nat)),hY_,q.1=x,hZ_,Aa 0 ρ=some bH_,h0_,W.its.length,h1_,.lst cy,h2_,some (Be q),h3_,q.2.1.map c_,h4_,W.its.map λi=>(i,D.fn fQ!),h5_,LI ?_,h6_,m - 1,h7_,x - 1,h8_,HL _ hz,h9_,Int×Int]
def z'i:String:=z [ia!,.lst a1!,ib!,os.map f,ic!,seqObj "list" us'.toArray n',id!,(ib_).zip ds,ie!,kl.map λh=>(D.int h,D.fn (ca h)),if!,some lI_,ig!,(by simpa using Y),ih!,(by rw[hp];simp),ii!,o.ExactDict,ij!,∀b u,h.get? b=some u->h'.get? b=some u,ik!,.ListComp ez v0! scope ah,il!,full.length,im!,Te h H,in!,IQ ho,io!,b∈X.ex\/dI_<=b,ip!,[P!,.lst dJ_],iq!,vx b o e J,ir!,λb hb=>?_,is!,λ_ _ e=>e,it!,Hist (S++ms),iu!,Jo Pf ms,iv!,[O_,iu_],iw!,"_law_most",ix!,.obj t.B3 (hF yy ta wa N_),iy!,∀du,isTrue e X.env du=(do let v <-du;standAt e.pos;holding [v] mn_),iz!,.str "bin",iA!,its.toList,iB!,f1 Hf aN!,iC!,some e,iD!,f1 Bp dP!,iE!,Rq 0 1,iF!,.Name x ip,iG!,⟨.int _,H,a3!,L!,q⟩,iH!,Wh (Mu 1 Ag),iI!,wl iz_,iJ!,fT sl!,iL!,X.mg "range"=none,iM!,fr c hc,iN!,f2 b hb,iO!,f1 Dm aN!,iP!,BD r ta tb,iQ!,Ah gv_ (Av (Gu (De (Ct sH!)) (wT (w2 iP_ (Oz u! a4_) (wl eY!)))) (Cb C_ a4_ eX!) Bn),iR!,.str "put",iS!,.str "move",iT!,w.hs x J,iU!,Gx X (compareOp fm) r',iV!,.Compare a [op,fm] [b,c] pos,iW!,(by simp only[HS];omega),iX!,if i<0 then -i else i,iY!,K.In s.heap,iZ!,W.instObj C o_,i0!,Li f v fs,i1!,Ai 2 (Cr t) c8_,i2!,True.intro,i3!,[U_,dz_],i4!,A.under (.builtin "type.__call__" ⟨.ref C::us,kw⟩),i5!,.List es pos,i6!,[.non,.non],i7!,.Call tQ! aO! [] pos,i8!,Str->Option NameKind,i9!,IJ.mp nd]
def z'ii:String:=z [ia_,some (.int N),ib_,ku.zip us,ic_,.done (.ret .none),id_,((id!).map A_).map eH!,ie_,aP (d:=aS_) rfl,if_,.int yy,ig_,Bc xs us,ih_,List (List Key×V),ii_,seqObj "list" (eJ_).toArray 0,ij_,.own x,ik_,H a=none,il_,full.toArray,im_,I.ok.bs b o e,in_,fr b hb,io_,(∀x c,X.env.cells.lookup x=some c->c≠b),ip_,λb o e n hb J=>?_,iq_,.int k,ir_,λ_ _ _ _ n=>n,is_,λ_ _ _ e=>e,it_,λm hm=>?_,iu_,some l2_,iv_,TP X h1 Z Q,iw_,"_law_base",ix_,PE X e t,iy_,Ct (fT (Em "tuple" n!)),iz_,fC iz!,iA_,.inl h,iB_,PS X st t,iC_,St->Hp->Prop,iD_,Pg (Ll t) 0 dP!,iE_,f2 Ak n! al_,iF_,f2 Ar v_ cg!,iG_,Ay t.B5 "preceding" h_,iH_,pyNext b4!,iI_,Ga t.B5 1 (Hv t) Af,iJ_,w2 Bt mC! u!,iK_,((0:Nat):Int),iL_,Gl X "range",iM_,(false,eval b X.env),iN_,I7.unpinned,iO_,Int->Int->V,iP_,λ_=>Ba,iQ_,2 ^ 64,iR_,fC iR!,iS_,.str "drop",iT_,.str "set",iU_,lastMarks [op,fm] [b,c]=false,iV_,(∀x∈S,x.tm<T),iW_,Ay t.B3 "ours" h_,iX_,r'.length,iY_,[some p.v],iZ_,W.emptyDict,i0_,(show False from r),i1_,H a=some e4!,i2_,rp x.nm,i3_,w.hist.op x J,i4_,aP (d:=.lst a1!) rfl,i5_,.str "",i6_,fC (.int 12),i7_,.Call tQ! [] [] pos,i8_,((p,w)::P.zip vs),i9_,N.length]
def z'j:String:=z [ja!,m'%(N:Int),jb!,W.codeIn K ag qual=true,jc!,f2 Ds M! w!,jd!,⟨_,ho,rfl⟩,je!,(by simpa using hv),jf!,.ref sl,jg!,f2 Ba aX! v_,jh!,Builtin.Tuple.tupleExact _,ji!,wl (fC ny!),jj!,V->Option Int->Option Int->Hp->VK->Prop,jk!,wl (fC nC_),jl!,aB jk_,jm!,aE ba! aJ,jn!,(m_:Int),jo!,bF T.V5 T.V7 l_,jp!,(show false=true from fx),jq!,upd H l ba_,jr!,.ref l,js!,.dT kvs,jt!,Ga t.B3 2 (Gd t) (Ab (wl al_) Af),ju!,Cm.cons (j:=0) Cm.nil,jv!,backTo ah vu_,jw!,ns.map .int,jx!,Qc kf kp xs,jy!,⟨[u],[]⟩,jz!,u++[a0],jA!,z▸ha,jB!,z▸w,jC!,.inr (.inr fj_),jD!,Gv kf n,jE!,Gv kp n,jF!,ForInStep.yield r,jG!,Cm.cons (j:=3) Cm.nil,jH!,mup_ne ow,jI!,mup_ne ut,jJ!,names.map λ(n,k)=>if n8! then(n,NameKind.cell)else(n,k),jK!,flt b hb,jL!,λx=>?_,jM!,λx J y hy=>?_,jN!,fR F!,jO!,[(Str.ofString "following",D.fn f),(Str.ofString "preceding",D.fn p)],jP!,fw _ (td p hp),jQ!,bb_∈W.rows,jR!,upd H p dm_,jS!,Co G H G' H',jT!,∀j∈ix,j∉own,jU!,hA.lt x J,jV!,⟨_,mup_same⟩,jW!,Gr .str eg_ [],jX!,(∀v G' H',Co G H G' H'->Ax K G' d v->Q v H'),jY!,[fq!,fq_,.int z],jZ!,.tup [fq!,fq_],j0!,⟨G1,ρ,d,dn_,e,wG!⟩,j1!,bF T.V3 T.W7 l_,j2!,DA X own aO! fs,j3!,Fc X.K fd ps [],j4!,mup_ne z,j5!,cD sub qa,j6!,Co.laid sub hp,j7!,aC!<=16,j8!,⟨B6,B7,B8,B9,C0,C1,C2,C3,C4,C5,C6,C7⟩,j9!,.type "NoneType"]
def z'jj:String:=z [ja_,Ac C! (Ac C! (Ac C! Ag)),jb_,cX F! dQ dc_,jc_,.ref t,jd_,⟨_,jj,rfl⟩,je_,((sIx n 0 lo:Nat):Int),jf_,bF T.V4 T.W3 l_,jg_,wl (fC Q!),jh_,HK ⟨_,rfl,HK h⟩,ji_,mT (nW T) a_ rfl,jj_,aN aH aM a8! aD r!,jk_,aN aH aM a9_ aD r!,jl_,Am 5 (w2 Bt bl_ b4_),jm_,Im.m cB,jn_,z.length,jo_,ad!<=sizeLine,jp_,compareOp .In,jq_,Ia (Eu c5!),jr_,Ai 3 (Gm t) (Ab u! (Ab C_ aY!)),js_,aC bm! aI,jt_,aN aH aM ba! aD r!,ju_,HI fin,jv_,l.most=some n,jw_,List.Pairwise.nil,jx_,[(.non,.non)],jy_,λv _=>v=.bl true,jz_,(b0::v),jA_,Cm.cons (j:=1) Cm.nil,jB_,λ_ _ _ _ _=>aZ (i:=0) (show([cr!,ay!]:List Str).Nodup by decide+kernel) rfl b!,jC_,.inr fj_,jD_,Ft st,jE_,z▸this,jF_,HL _ hp,jG_,mup_ne jy,jH_,mup_ne uv,jI_,(D.non::u),jJ_,"_law_row",jK_,z▸IB (f:=c_) hq,jL_,λa b hm=>?_,jM_,(N!,Uj us n),jN_,(λv z=>by cases z),jO_,(by kernel_rfl),jP_,∀a vs,Gf K H a vs->Gf K H' a vs,jQ_,.str i,jR_,λb u e=>?_,jS_,bX M_ bH I_ a9! r!,jT_,W.num i,jU_,mH hN hv hd bz,jV_,if x=i then cutT [s] bp_ else W.txt x,jW_,fb ρ,jX_,[fq!,fq_,dS_],jY_,f2 g fa fb,jZ_,⟨x,rfl,?_⟩,j0_,DA X own es fs,j1_,xC h.ok,j2_,(by rw[hl];exact IS _ q0),j3_,(by rw[hl];exact IA _ q0),j4_,this.2.1,j5_,[aS_,aR!,.int (k0:Nat)],j6_,Int->Int->D,j7_,s3 c hc,j8_,mup_ne h5,j9_,List Bool]
def z'k:String:=z [ka!,bs.map Value.bool,kb!,starEach (a::[]) X.env=dT!::starEach [] X.env,kc!,bnd d ρ,kd!,(by show 3<=1000;decide),ke!,An K G ds vs,kf!,IL.mp Y,kg!,wo W.rows i,kh!,Yk K ps.length g,ki!,Gf X.K H a vs,kj!,(by simpa using h),kk!,us.toArray.size,kl!,ak.length,km!,rD rd re rv ak (h us us' rv ak),kn!,nH ds es hl,ko!,cD sub q,kp!,.str "set",kq!,.str "redo",kr!,ops.length,ks!,[.int 9,.int 9],kt!,[.str "bin",ks_],ku!,ys.map (·.length),kv!,Str.ofString "__next__",kw!,ZipApart z TI TO i1 i2 l1 l2,kx!,IsPair s.heap TI (.ref i1) (.ref i2),ky!,s.heap.IsTupleIter i1 l1 k1,kz!,(∀c ob,c≠z->c≠TO->c≠i1->c≠i2->s.heap.get? c=some ob->h'.get? c=some ob),kA!,HI (RP ?_),kB!,IP _ rfl,kC!,λc hc=>?_,kD!,sgn h m,kE!,.int v,kF!,λx J q hq=>?_,kG!,k==k',kH!,hA.noOb oM6,kI!,Oy P w h es ks,kJ!,⟨cr,?_⟩,kK!,(·.2.1),kL!,(·.key),kM!,Str->D,kN!,(∀b,b≠p->M' b=M b),kO!,Gr .str be_ [],kP!,some o.nm,kQ!,mup_ne c2,kR!,dE a es ep,kS!,[(root,.non),(binn,.non)],kT!,[(root,.fn r1),(binn,.fn r2)],kU!,.fn a3,kV!,st.grow x1 m1,kW!,Cw X.K G x v,kX!,dictGet a u>>=_,kY!,upd H a (dE a ay bH!),kZ!,!En d d',k0!,λw hw=>qO I r1 rx n1 r2 r n2 (by have:=oC X.A;omega) w ns!,k1!,rY I r2 r n2,k2!,(by rw[hp.length_eq];omega),k3!,[O_,p2!,U_,some p3!],k4!,(p,kvs,ep),k5!,ho.run I st e λd M1 v G1 H1 u s1 r1 x1 m1 q1 I1 rx=>?_,k6!,D.str.inj z,k7!,its.map λi=>(i,g i),k8!,cc!<5000,k9!,[B_,aI_]]
def z'kk:String:=z [ka_,Co.refl s2,kb_,z▸J,kc_,λv H2 hy=>?_,kd_,wl f1,ke_,λj hj=>?_,kf_,eval br! X.env,kg_,[.Subscript br! ix p2],kh_,cs.map λ_=>.bl true,ki_,xs.map D.str,kj_,En o4_ o5!,kk_,∀(us us':i_),Bc vs us->Bc ws us'->∀(j:Nat) u u',us[j]?=some u->us'[j]?=some u'->SeqAt.EqAt A.in1 s u u' kj_,kl_,λj=>En o4_ o5!,km_,nL ds es hl,kn_,⟨.bl _,H,I,rfl,q⟩,ko_,.str "write",kp_,.ref ad,kq_,∀o∈ops,Vk o,kr_,kr!<=100,ks_,.tup ks!,kt_,(aC!:Int),ku_,cs.map Pe,kv_,(by size_fits),kw_,IsZip s.heap z TI TO .none,kx_,IsPair s.heap TO p q,ky_,s.heap.IsTupleIter i2 l2 k2,kz_,.int base,kA_,h5.objs.size,kB_,b7g (rL rfl (LF _)),kC_,Ld xs ys,kD_,.tup [kp!,a,.int p,.int v],kE_,(pq_).set p.toNat kE!,kF_,pM l c k,kG_,rows.map c_,kH_,ks.length,kI_,plc es dv!,kJ_,[D_,aI_],kK_,[fG_,.int o.n,hH!,o.d],kL_,Oy P w s.heap es.toArray ks,kM_,λk=>.bl hH_,kN_,(by simpa using hl),kO_,Bk G G',kP_,(∀b,M b≠none->M' b=M b),kQ_,λq hq=>?_,kR_,XM M G H M' G' H',kS_,mup_ne (HR j2),kT_,List D->Mh->Prop,kU_,w2 gm fa fb,kV_,⟨G1,ρ,M1,R,kV!,r1,zu!⟩,kW_,upd H a (dE a ay (Gs kvs d ep)),kX_,a5k (A:=A.in1) hu I m sub e r hk λo s' I' ho=>?_,kY_,os.map Op.nm,kZ_,hp x HQ,k0_,(show its.toArray.any fM!=its.any fM! by simp),k1_,hp.map _,k2_,some fN_,k3_,.ext x2,k4_,(u++o::v),k5_,⟨t1,t2,?_⟩,k6_,if _ then _ else _,k7_,(bp_).map Be,k8_,HP (HR h.1),k9_,some bg!]
def z'l:String:=z [la!,.int (av_:Nat),lb!,Gj own Z H,lc!,.lst ((Ai_).map Bh),ld!,HY (by simp[big];omega),le!,[.Subscript o i p2],lf!,wl fx,lg!,l.map Be,lh!,Dh C m M d,li!,some es_,lj!,p1 rfl,lk!,⟨#[s.cps.toList.getD k 0]⟩,ll!,.lst [],lm!,.Constant (.str s0) n0 p0,ln!,mirror_perm _ _ _ _,lo!,Ld qC! qC_,lp!,setPending h2 ((Bd!).push lo_),lq!,λx h=>(by cases h),lr!,λz hz=>?_,ls!,List (Keyed×D),lt!,bN rfl hB_,lu!,(by rw[HS,JV];omega),lv!,PySem.Fin->Shared->Prop,lw!,(a,seqObj "list" #[] e1),lx!,HZ.mp hb,ly!,ku.toArray.zip cD!,lz!,[f0_,BB!],lA!,Int->Addr,lB!,hk q a9,lC!,(by rw[hA.ob];simp),lD!,(by rw[hA.wt];simp),lE!,hA.cl h hh,lF!,.fn (ca h),lG!,[P!,o.v],lH!,seqObj "list" us.toArray 0,lI!,lt S h,lJ!,(by rw[he];rfl),lK!,HR vo,lL!,(Sum.inl a:Key),lM!,.str x t,lN!,dI (f:=fC .non) (d:=.non) rfl,lO!,λh hh=>(by cases hh),lP!,⟨_,rfl,r⟩,lQ!,List Key×Addr×Value,lR!,(by show 4<100;decide),lS!,λh hh=>?_,lT!,aV hb hq,lU!,if h=o.h then q else ca h,lV!,HX.mp hh,lW!,e=x\/H e=some ij_,lX!,[.lst jw!],lY!,[t_,U_,none],lZ!,upd H x o,l0!,[(Str.ofString "default",dv)],l1!,X.env.scope.kind,l2!,[t_,R_,ap!,U_,kP!,y5],l3!,Ov X.prog X.w H' h',l4!,I.freeC x c e,l5!,I.base.keep b o e n hb J,l6!,λz=>hc ga_,l7!,[ak!,S!,cY_],l8!,[ak!,rx_,a2!,"behind","text"],l9!,∀o∈ms,o.h≠yy]
def z'll:String:=z [la_,Bh rs[k],lb_,s.root hb,lc_,(by simpa using vm),ld_,W.rows.filter λq=>decide hY_,le_,decide hY_,lf_,Aa 2 ρ,lg_,.lst lg!,lh_,.obj C [],li_,Bx N ps.length q,lj_,HK (HI (RI ho hd ?_)),lk_,.lst (nw.map Be),ll_,(by simp[c]),lm_,fo ρ=some E!,ln_,some je,lo_,(0,a0.size,0),lp_,Hist os,lq_,Value.int a t,lr_,α->β,ls_,gV nd,lt_,[aa_,au!,ia_,hU_,qJ_,qJ_,none,none,none,none],lu_,h.ch k,lv_,Pu f1 ρ M a,lw_,⟨rfl,hg _ hK⟩,lx_,Pu f ρ M d,ly_,.int yy,lz_,[f0_,BB!,(Str.ofString "waiting",.fn wa)],lA_,hk p hp,lB_,kl.length,lC_,(by rw[ht];simp),lD_,(by rw[hA.cl h hh];simp),lE_,.inr dD_,lF_,.builtin "sorted",lG_,(s.heap.push cq!).update s.heap.objs.size (Obj.mapSeq (·++cD!)),lH_,aP (d:=.int 1) rfl,lI_,.int h,lJ_,acc.toList,lK_,ds.all λd=>(My d).isSome,lL_,ds.map Nv,lM_,Jo Nv ds,lN_,(Sum.inr a:Key),lO_,(nomatch e),lP_,κ×Value,lQ_,some (.inl (.inl o.h)),lR_,W.instObj C dx,lS_,fs.map c_,lT_,wD F S λag A outer s H E hr=>hb hr,lU_,λ_ q=>q,lV_,HZ.mp y,lW_,∃u,h'.get? e=some u,lX_,.inr ca_,lY_,Int×Tok,lZ_,bD (hm b _ q λz=>z),l0_,(o.nm,o.v),l1_,(λz=>by cases z),l2_,.lst dJ_,l3_,aP (d:=.fn p) rfl,l4_,λx c e=>?_,l5_,I.base.free b o e n J,l6_,h.ch y.h,l7_,"sibling",l8_,[ak!,a2!,"first","many"],l9_,hs.2 b (JG rn_)]
def z'm:String:=z [ma!,⟨ho,rfl⟩,mb!,(eE_:Nat),mc!,hs.2 b (JG (IT cY! (I.ok.cab x c ym hc))),md!,kl.flatMap (hs S),me!,[J_,"deed"],mf!,"_law_letters",mg!,eval a X.env,mh!,⟨v,H,I,r,h⟩,mi!,aP (d:=.non) rfl,mj!,"_law_name",mk!,.bool b,ml!,[c3!,c2!,bh_],mm!,hR M' o rl h hQ,mn!,h h1 s Z H _ I hw,mo!,.BoolOp .And [a] pos,mp!,.int (i:Nat),mq!,aP (d:=fy!) rfl,mr!,(Dp n! Aq by!),ms!,.IfExp c a b pos,mt!,(st::rest),mu!,λz hz=>J z h8_,mv!,assignEach es X.env,mw!,[D.tup [x,p]],mx!,setItem ov iv v,my!,PG X tg g,mz!,Int->Int->Int,mA!,hO.op o ho,mB!,λo ho=>(mA!).dg,mC!,Ay t.B4 "parents" h_,mD!,Ab aO_ Af,mE!,Ab u! mD!,mF!,⟨rfl,I.turned (t':=s.toks) (λb o hb e=>eb b o hb e) f0 f1 f3 f4 f5⟩,mG!,λb o hb e=>kk b o gr! e,mH!,hi - lo,mI!,Ac bj! Ag,mJ!,Ab cw_ Af,mK!,dM mJ_ λus s1 ⟨vs,H1,I1,r1,q1⟩=>?_,mL!,m1 c hc,mM!,(λo=>by unfold rp;split<;>rfl),mN!,(bP os).mem_iff.mp ho,mO!,Int->Int->Prop,mP!,.BinOp a op b pos,mQ!,f dE_ (.int j u),mR!,rI Yb λi j=>.int (i*j),mS!,rI BB λi j=>.int (i / j),mT!,.tup [hw!,fx!,.non],mU!,i ^ j.toNat,mV!,decide (i<j),mW!,compareOp .LtE,mX!,f2 Ak M! al_,mY!,Sw λi j=>.bl mX_,mZ!,Sw λi j=>.bl mY_,m0!,wl (Dj Ag),m1!,Ay t.B3 "outline" h_,m2!,f2 Ak v_ w!,m3!,kvs.isEmpty,m4!,⟨H,I,q⟩,m5!,.tup s6_,m6!,Hx 1 [] (Ep v_) E_ a3_ te_,m7!,.lst [p.nm],m8!,{s with toks:=s.toks+1},m9!,srt m8_]
def z'mm:String:=z [ma_,IA _ ho,mb_,"message",mc_,[J_,"fresh"],md_,Inv X h1 Z H' s',me_,starEach es X.env,mf_,(eg_).map Op.v,mg_,[bJ_,iw_,bh_,iw!],mh_,[bJ_,iw_,"_law_many"],mi_,[b2_,ay!,c2!],mj_,[b2_,cr!],mk_,iU H_ (a3d h),ml_,∀K:D->Mh->Prop,(∀M' o rl,OS t M' a o rl W->Q M'->K N_ M')->Cq t [P!] M K,mm_,fC (.int 60),mn_,truthy v,mo_,.BoolOp .Or [a] pos,mp_,.BoolOp op [a] pos,mq_,dM b2! λv s1 ⟨x,H1,I1,r1,q1⟩=>?_,mr_,.bl false,ms_,⟨σ,H',I.unwish,q⟩,mt_,.Return iC! pos,mu_,Hp->Prop,mv_,.lst [.tup [x,p]],mw_,wi.nm x J,mx_,⟨by simp[big],?_⟩,my_,.fn (qa q1),mz_,Run W0 fM_ W,mA_,V.its.map λi=>(i,D.lst ((V.txt i).map Be)),mB_,aP (d:=.str "texts") rfl,mD_,{s with heap:=h'},mE_,λb hb=>(pp!).1,mF_,Bb t.B4 "has_item" 2 (Cj t) h_ am_,mG_,I1.kept (t':=s1.toks) λb o e=>HM _ e,mH_,s.heap.push {cls:=.type "range",data:=.fields #[.int lo t,.int hi u,.int 1 v]},mI_,Am 8 (wl (f2 Ao v_ (Aw mI!))),mJ_,ha pos h1 s Z H _ I h,mK_,some (.inl (.inr "root")),mL_,PI X tg iter wi,mM_,(λo=>by unfold nu;split<;>rfl),mN_,V->Hp->VK->Prop,mO_,Gx X (binaryOp op) r,mP_,Am 2 Gy,mQ_,Int->Int->Bool,mR_,w.hs o ho,mS_,rI (λ_ j=>0<j) λi j=>.int (i%j),mT_,rI BA λi j=>.int mU!,mU_,sN!\/sO_,mV_,Sw λi j=>.bl mV!,mW_,decide (i<=j),mX_,decide (j<i),mY_,decide (j<=i),mZ_,ho h1 s2 Z H2 x y v u _ I2 r1 r2 q2,m0_,w2 Bt c8! C_,m1_,Ab (Ai 1 (Ey t) aY!) Af,m2_,f2 Ak v_ C!,m3_,its.toArray.isEmpty,m4_,Pu f1 ρ M x,m5_,Vl s.heap x dx C mA,m6_,W.plainGet_of hg,m7_,W.isFn K aj_=true,m8_,s2 os tu rh rn g++c9_,m9_,show Li f v ((k,x)::r)=(if k=f then(k,v)::r else(k,x)::Li f v r)from rfl]
def z'n:String:=z [na!,Am 2 tn!,nb!,I.tok _,nc!,∀M',R (.rt z_) M',nd!,s2 os tu rh rn x.nm++c9_++[vO tv],ne!,f2 Ba gu_ iR_,nf!,aP (d:=.fn c) rfl,ng!,f2 Ao w! (f2 Bz n! v_),nh!,some (.lst nb_),ni!,.ins C dx [],nj!,uO (50+m%9) x.nm,nk!,Ac bL_ Ag,nl!,backTo pos tU!,nm!,srt (os++nk_),nn!,o0.map nu,no!,Ph CX P w K mg base N qual scope f ag A outer s H E,np!,iA T.T9 rfl,nq!,Kj X e8_ r,nr!,.int c u,ns!,(by simpa using hw),nt!,v+(n:Int),nu!,.tup [bk_,cx_],nv!,Bw (w2 Bt h_ gN!),nw!,(i:Int)+(m:Int)*1,nx!,bF T.V4 T.V8 l_,ny!,.str "texts",nz!,f2 Ak v_ al_,nA!,Am 2 (wl nz!),nB!,Cb bl_ aO_ m0!,nC!,HT.sIx xs.length xs.length hi - HT.sIx xs.length 0 lo,nD!,Cb nD_ aO_ (Qk (Ab a5_ (Ab a5_ (Ab a5_ (Ab a5_ Af))))),nE!,Bo (Ai 4 Gq uD_),nF!,Bo (Ai 4 Jm (Ab h_ gx!)),nG!,aB (cX ba! dQ dc_),nH!,V->List V->Hp->VK->Prop,nI!,Ac (f2 Ao uO_ n!) Ag,nJ!,aC u_ nI_,nK!,sliceBounds lo hi none n,nL!,w2 Bt C_ ji!,nM!,λ_=>Yd false,nN!,Ab a4_ Af,nO!,Ab u! nN!,nP!,λx1 x2=>x1++x2,nQ!,acc++its,nR!,n<=sizeLine,nS!,aO (jP T) a_ rfl bO_,nT!,ks.map kV,nU!,Ab (wl a7!) am_,nV!,World->Heap->Prop,nW!,d.params.defaults=[],nX!,.call ff! nW_,nY!,λf vs=>PySem.call f vs,nZ!,Al k callerA,n0!,fE (n:=9) rfl,n1!,h.f _ _,n2!,λ_ _ _ _ _=>oP (fA (bM aA! cB a8! Z! p_)),n3!,W.fnOf x qual jD_ bQ_ bE_ .none kV br pm an ag ct,n4!,bD (ne b _ e),n5!,bD (by simpa using hc),n6!,vN (pH b8! (kO (cU b7! eR bm! bm_ rfl))),n7!,K.p _ _,n8!,k==g0_&&env.scope.kind==.function&&env.kindOf n==some .cell,n9!,Inv X h1 Z H2 s2]
def z'nn:String:=z [na_,Option Value,nb_,(os.map i2_).map Op.v,nc_,PE X o ta,nd_,srt nd!,ne_,.tup [gH!,gH!],nf_,[rO rh rn x.nm],ng_,Rs P w K mg base A outer s H,nh_,Ac (f1 Bv (Ac n! (Ac tC_ Ag))) Ag,ni_,upd tL_ x ni!,nj_,kS I hg hm ?_ bg,nk_,[uO (50+m%9) x.nm],nl_,Mk X.K C f,nm_,fC (.int 5),nn_,hX (yS (a1q t9! (uB (bM a0o a0q gL! aD p_)))) e8! eC,no_,aE a8! aJ,np_,bootBuiltins x=some e8_,nq_,bootBuiltins x=some d3_,nr_,ws.length,ns_,Am 3 (wl jc!),nt_,Bw (Ai 1 Fy aY!),nu_,wl (fC nu!),nv_,aB (lI aJ),nw_,(items.toList.drop (sIx items.size 0 lo)).take ut!,nx_,bX M_ bH nx! u_ r!,ny_,Ab C_ mD!,nz_,.Slice lo hi none p2,nA_,Am 3 (wl (Aw uB!)),nB_,HT.sIx xs.length 0 lo,nC_,.str "numbers",nD_,w2 Bt h_ jk!,nE_,λb ob q=>HM _ q,nF_,Bo (Ai 4 Jm (Ab h_ sL_)),nG_,Ia (Eu uG!),nH_,.Subscript a b pos,nI_,aC aP_ aI,nJ_,aC an! aI,nK_,bU (dL T) a_ l_ ar_,nL_,aC cz_ aI,nM_,w2 Bt aO_ ji!,nN_,Ab h_ nN!,nO_,aj.endLine==ah.line,nP_,aC a9! (aC cz! aI),nQ_,Bf 1 [] gD_ E_ bk! (Wz (wT (w2 eX_ (wl gu_) nu_)) h_ (wl vg!)),nR_,Bf 1 [3] gD_ E_ bk! (wl (Lb (fT vj_) n! vg!)),nS_,aO (eY T) a_ rfl d8_,nT_,Av (Uw (wT (w2 Pt (Ai 2 fe! (Ab cw_ (Ab (wl (Dj nk!)) Af))) dY_)) (Ip (wT (Ai 3 (Je t) (Ab cw_ vm!))))) bC! Bn,nU_,(Str->Option Value)->Heap->Prop,nV_,cH cR eJ rfl T.S9 eG gV_,nW_,⟨bl!,[]⟩,nX_,λr s'=>r=.ok (.ret gX!)/\OldK al.heap s'.heap/\s'.os=al.os/\AllBare s'.gens,nY_,.bool true,nZ_,λ_ _ _=>False,n0_,gg++bP_,n1_,h.p _ _,n2_,λ_ _ _ _ _=>gZ!,n3_,aC I_ nI_,n4_,λm hm=>hm,n5_,λ_ _ _ q=>q,n6_,∀x∈xs,∃k,Db x=some k,n7_,bL (sc:=Ad Qy) rfl k!,n8_,Zh X scope cl,n9_,∀b∈fp,Ji X h1 H2 b]
def z'o:String:=z [oa!,Pv NL.length ix Z,ob!,(aH_).map c_,oc!,aC bD! aI,od!,aC u_ oc!,oe!,λ_ _ _ _ _=>(aO (sW T) a_ rfl (aC u_ (aC I_ bO_))),of!,if x=n then[]else W.txt x,og!,(cC_).mp J,oh!,[c1!,iw!],oi!,if x=a then l else W.txt x,oj!,Str.ofString "written",ok!,(by rw[e1];exact hb),ol!,.inr (.inr ⟨aq!,rfl⟩),om!,V.ref p,on!,mup_ne h3,oo!,[D_,aI_,K!],op!,λi d q _=>?_,oq!,hA.noOb oM2,or!,aE aD aJ,os!,[c3!,bh_],ot!,if b∈Ka own Z then none else G' b,ou!,setT W i (cutT g bp_),ov!,As k6 s z_,ow!,setT W i wu!,ox!,g++[.tup jX_],oy!,fT fa ρ,oz!,.dct (As k5 s c) e5,oA!,aN aH aM bC_ aD r!,oB!,f1 g fs,oC!,cs.zipIdx k0,oD!,some wT!,oE!,[D_,bq_,K!,en!,some tx,some c7,oD!,some gP_,qu],oF!,hO.mono a!,oG!,As k1 n pl,oH!,As k2 n (.fn r1),oI!,.dct oH_ e3,oJ!,s2 c hc,oK!,K3 c (oJ_).1 (oJ_).2.1 (oJ_).2.2,oL!,sub.seq q,oM!,.builtin "isinstance",oN!,⟨o,Y,L⟩,oO!,aY aQ bO aD (aY eP eQ w2! aD),oP!,w1 _ v2,oQ!,a3v (pG T) a_ rfl nJ_,oR!,(by rw[z,g4]),oS!,(by rw[z,g5]),oT!,w1 a2 h3,oU!,(by rw[cW xn];exact u1),oV!,na d hd,oW!,GD X.K g bnd,oX!,HP (λz:x=n=>hn kb_),oY!,⟨ho,rfl,k⟩,oZ!,.dct oG! (Gs k1 n e1),o0!,eV.mp z,o1!,.inl ⟨rfl,vs,Fz.of h3⟩,o2!,Ea ds.length j,o3!,⟨nj iz,?_⟩,o4!,Ph Qf P w K mg base N qual bE_ ae ag A outer s H E,o5!,es.getD j .non,o6!,us'.toArray,o7!,.tup [.str a,.str b],o8!,.str "move",o9!,ad==sysModules]
def z'oo:String:=z [oa_,W.its.Nodup,ob_,kQ.mp hq,oc_,aC l_ oc!,od_,mS (fM rfl T.T3 aD),oe_,n∉W.its,of_,(og!).resolve_right q,og_,λ_ _ _ _ _=>aZ (i:=0) (show(cB_:List Str).Nodup by decide+kernel) rfl b!,oh_,setT W a l,oi_,"_law_rows",oj_,k1.length,ok_,List (L2.Key×V),ol_,ds.drop n,om_,mup_ne p1,on_,some cd!,oo_,Im.m b1j,op_,Db x=some kx,oq_,(jT_).set p.toNat gC!,or_,hw Z G H Q ρ d er e k,os_,⟨r,f,p',g1,g2.keep (ax _ dn!) (ax _ ei_) (ax _ ej!),g3,g4,g5⟩,ot_,(q.1,q.2.1,q.2.2&&!decide (q.1∈cy)),ou_,λq hq y hy q' a9 e=>?_,ov_,.dct ov! e6,ow_,k G' H' s',ox_,⟨G,ρ,x,er,e1,λG1 H1 s1=>?_⟩,oy_,⟨G,ρ,.bl x,er,lE e1,wG_⟩,oz_,setT W i wF_,oA_,(by rw[xh];simp),oB_,(by rw[HS,HS];omega),oC_,cD sub qb,oD_,[D_,bq_,K!,en!,some tx,some c7,oD!,some gP_,some cg_],oE_,(.tup j5_,.str ar!,true),oF_,mS (fR Z!),oG_,Option Int,oH_,As k3 n (.fn r2),oI_,mup_ne c3,oJ_,jd c hc,oK_,xk c hc,oL_,gn c hc,oM_,gn c j7_,oN_,mup_ne h4,oO_,w1 _ v1,oP_,w1 _ v3,oQ_,(by rw[z,hA.r1]),oR_,bs.all id,oS_,aC (aB cc_) ar_,oT_,List.range n,oU_,(by show 1<=1000;decide),oV_,ak.mono x2.g,oW_,x.sub.free hp,oX_,Y.ok G0 F0,oY_,ρ.set i on_,oZ_,Bg M a1 oZ!,o0_,[D_,K!,aI_,ch_],o1_,h5.mono x.g,o2_,.dct (As k1 i x) (Gs k1 i e1),o3_,A.deeper (envOfC qual bE_ s.heap.objs.size ae ag),o4_,ds.getD j .non,o5_,us'.toArray.size,o6_,Fz X.K H a vs,o7_,(a==k||b==k),o8_,.str "drop",o9_,bp.lookup y]
def z'p:String:=z [pa!,Sum.inr z,pb!,Sum.inr z,pc!,A'.handled,pd!,c8.length,pe!,backTo ah (starEach [a] X.env),pf!,⟨cs.toArray⟩,pg!,⟨_,dS!,rfl⟩,ph!,some (Rk oth),pi!,CY s.heap l1 l2,pj!,.type "zip",pk!,[.tup [ch!,.int (1+m0%5)]],pl!,λc o _ _ hc e _=>kp c o hc e,pm!,λc o hc e=>⟨o,kp c o hc e⟩,pn!,I.hok c o e,po!,λ_ e'=>e',pp!,hf b hb,pq!,⟨_,_,rfl,rfl,ep_⟩,pr!,[aS_,aR!,.int (k:Nat)],ps!,A.deeper (envOfC x bE_ s.heap.objs.size ae ag),pt!,Vf n es,pu!,W.mg_of X G a,pv!,ns.map D.int,pw!,Vw rows,px!,Dc (D.str k::r) 0=_,py!,.tup (.str k::a::b::r),pz!,f3 ρ=some c,pA!,Ko P w s.heap x u,pB!,[.str k,a],pC!,(dv_).map c_,pD!,Option Nat,pE!,(k=="undo"||k=="redo"),pF!,Str.ofString "redo"==Str.ofString "redo",pG!,.bl (Et o.d).isSome,pH!,(Ak o.v bi!).bind λx=>Ak x L_,pI!,(∀o∈os,DG o.d),pJ!,.dct acc ep,pK!,[cO!,ap!,none],pL!,kget wd o.nm,pM!,As kvs d x,pN!,[(root,D.non),(binn,D.non)],pO!,.obj t.B4 fK!,pP!,(by rw[e];simp),pQ!,hw Z G H Q ρ M R st e k,pR!,Bq ed_ kU! hN_,pS!,.refl st.or.sub,pT!,Co.laid x1.sub hp,pU!,⟨o,h⟩,pV!,HI (OQ hT ac_),pW!,some x.v,pX!,λy hy=>hp y eb!,pY!,Fz K H p ys\/Gf K H p ys,pZ!,l.map Op.v,p0!,.int zM_,p1!,α->Prop,p2!,some (.lst p1_),p3!,.int p2_,p4!,((bZ!+(m+1):Nat):Int),p5!,.dct q.2.1 q.2.2,p6!,kget q.2.1 y,p7!,(Str.ofString "undo"==k||Str.ofString "redo"==k),p8!,(cO_).trans x3 m2,p9!,Bf 1 [1] _ _ _ _]
def z'pp:String:=z [pa_,.lst its,pb_,Addr->Option xK!,pc_,some (.lst c8),pd_,letters.length,pe_,[a].length+(d7!).length+fd!<30,pf_,λ_=>some true,pg_,[aa_,au!,aC_,br_,bW_,cj!,cL_,ln_,fz!,some U!,none,none],ph_,⟨_,rfl,?_⟩,pi_,[aa_,au!,aC_,br_,bW_,cj!,cL_,ln_,fz!,some U!,some sg,none],pj_,HM _ kB!,pk_,(λv y=>by cases y),pl_,λc o _ _ hc e _=>⟨o.slots,kp c o hc e⟩,pm_,λc ps e=>rs!,pn_,λd o' hd e'=>kp d o' (λhm=>?_) e',po_,bD (ne c _ e),pp_,bD (ne d _ q),pq_,W.num a,pr_,.tup ck!,ps_,Ph Qf P w K mg base N x bE_ ae ag A outer s H E,pt_,(pM l c k).binds b,pu_,⟨a',b',c',e',IS _ hm⟩,pv_,Tu rows,pw_,.str k',px_,.tup (.str k::a::r),py_,.tup (.str k::a::b::c::r),pz_,List L2.Key,pA_,some (.inl (.inr "bin")),pB_,LZ ho hd (HI (c0y hu q2 hk (HI (LZ ho hd ?_)))),pC_,Nk i5_ yY_=some v,pD_,KQ.mp hq,pE_,Str.ofString "undo"==Str.ofString "undo",pF_,ops.map Op.key,pG_,HI (vY hu hk λtk=>HI y2_),pH_,[R_,ap!,y],pI_,aj!<=sizeLine,pJ_,mup_ne hb,pK_,λx=>?_,pL_,Gr .str be_ [],pM_,(∀b,M b≠none->M' b=M b/\rl b=.oth),pN_,hH.trans Y,pO_,(by rw[mup_same];simp),pP_,[(root,D.fn r1),(binn,D.fn r2)],pQ_,"numbers",pR_,st.mr.ext x,pS_,MT X own c ft,pT_,if c=o then _ else _,pU_,⟨⟨o,q o z1,z2,z3⟩,z4⟩,pV_,Jf wd os,pW_,λy hy=>hd y eb!,pX_,∀c,rl c≠.oth->M' c=M c,pY_,compareOp .NotIn,pZ_,((j:Nat):Int),p0_,[O_,zM!,U_,some p0!],p1_,(bn_).map Op.v,p2_,(bZ!:Nat),p3_,((bZ!+m:Nat):Int),p4_,[O_,hU!,U_,z],p5_,q.2.length,p6_,⟨Y,L⟩,p7_,RO (a:=Str.ofString "redo"),p8_,Value×Value,p9_,⟨cR!,rfl,ew_,dw_⟩]
def z'q:String:=z [qa!,rs.take k,qb!,.int ((k+1:Nat):Int),qc!,IL.mp e,qd!,.inr (s.noF z),qe!,aw wn Af!,qf!,[some eC!,K!],qg!,((av_:Nat):Int),qh!,.nx cf!,qi!,.lst [Bh bR!],qj!,Lh M3 d y v,qk!,.lst [p],ql!,MI X own tg iter fi,qm!,.dct (As eD_ a lg_) e,qn!,.fn (qa a),qo!,.bl q.2.2,qp!,[B_,O_,li!,fS_,o4,o5,o6,o7,o8,o9],qq!,List.range aC!,qr!,(λi v=>∃e,es[i]?=some e/\v=e.key),qs!,[B_,O_,fT!,bq_,y4,h2!,qr_,y,some lk_,none],qt!,(by simpa using qk),qu!,.bool (lexLt ms ns),qv!,Stp W n d W',qw!,fa ρ=some y,qx!,Et x.d=none,qy!,Bg qx_ wt B!,qz!,Option Nat->SortSt->Prop,qA!,HZ.mp z,qB!,[none,none],qC!,cs.map λc=>.fn c.1,qD!,cU! / 2,qE!,os++[o],qF!,(by rw[IG,hw.len];rfl),qG!,(by have:=hw.b1;omega),qH!,ρ[i]?=some on_,qI!,(qH_).map kf,qJ!,Al k X.A.in1.in1,qK!,ku.length,qL!,(by rw[IU];rfl),qM!,Ab f1 Af,qN!,seqObj "list" #[] e1,qO!,Paired cV! ds us,qP!,(by rw[KH];omega),qQ!,Str.ofString "outline",qR!,QP ?_ cj_,qS!,.int BK!,qT!,some (.inl iA_),qU!,aP (f:=Aa 0) rfl,qV!,λq e=>Cw K G q.1 e.key,qW!,(by show _<100;simp),qX!,.obj t.B3 lz_,qY!,(λq=>nomatch q),qZ!,seqEpoch_at mh rfl ?_,q0!,Jp f5! (Mb h3 p.1.1)<Jp f5! (Mb h3 q.1.1),q1!,(show Fg X.prog X.w H s.heap d dB_ from I.hok d _ e2),q2!,.lst ((eI_).map Op.v++[o.v]),q3!,hF yy ta wa out,q4!,mup_ne (HR at_),q5!,Fg P w H h a o,q6!,mup_ne λz=>ho ca_,q7!,[(.int o.h,.fn q)],q8!,.dct (ie!++q7!) bH!,q9!,W.methodObj aj_ (.ref y)]
def z'qq:String:=z [qa_,upd H s.heap.objs.size zZ_,qb_,Ao fN_ aN_=_,qc_,.dct (k3 (.lst (rows'.map Bh)) fP_ eB_) e,qd_,(by rw[hA.rt];simp),qe_,(by rw[L];simp),qf_,Y.ok M0 G0 F0,qg_,.lst ((eC_).take a),qh_,sr.grow x m,qi_,.obj C (Bq x y fs),qj_,!decide (x=i),qk_,Jt P w K own M0 G0 F0 M1 G1 H1 Z ρ,ql_,Aa 2 ρ=some eu_,qm_,(by rw[hA.rw_];simp),qn_,Yc P w K ps.length g,qo_,((n:Nat):Int),qp_,Pi s.heap d es ep,qq_,[B_,O_,fT!,bq_,y4,none,none,none,none,none],qr_,some (.int (at_:Nat)),qs_,.lst ((eE!).take at_),qt_,.str letters,qu_,HT.lexLt ms ns,qv_,a5b hL dv0 oU bm,qw_,[R_,B_,ap!,some x.v],qx_,Bg N w B!,qy_,⟨0,?_⟩,qz_,∀k h2,SB kd a0 h2->1<=k->k<=n->Up r y_ k->Q (some k) h2,qA_,⟨by rw[IK];unfold big;omega,?_⟩,qB_,List (Addr×D),qC_,cs.map A_,qD_,Addr×D->Prop,qE_,x.h=0\/x.h=5\/x.h=15,qF_,(by have:=hw.b0;omega),qG_,(by have:=hw.b2;omega),qH_,az.map A_,qI_,h1++[eG_],qJ_,some (.lst [ch!,ch!,ch!]),qK_,b7u em ed nd z rfl rfl rfl rfl rfl rfl rfl hb,qL_,λd q=>My d=some q,qM_,∀H':Hp,H' a=none->Ji X h1 H' a,qN_,Uz ft ρ M false,qO_,Jo eH! ds,qP_,Jb g q.2,qQ_,λb hb ho=>?_,qR_,(cp_).push cq!,qS_,aP (d:=ll!) rfl,qT_,hA.nob hM1,qU_,aP (d:=ch!) rfl,qV_,Paired.mapP ok.1 λ_ _ z=>z.1,qW_,(λb hb=>by rw[lx!];exact gh),qX_,λv d=>Hy h3 v (Nv d).1 (Nv d).2,qY_,mixKind prog w,qZ_,L'.map (·.1.2),q0_,(Xg λys Q H=>∀l,H l=none->Q jr! jq!),q1_,.tup (p.1.map kV),q3_,(∀f,Ou (fs.lookup f) (mA f)),q4_,mup_ne (HR aw),q5_,(show h.get? a=some _ from x),q6_,∀b xs,H b=some bI!->H' b=some bI!,q7_,∀{ae:Addr} {ag:Value} {A:Around} {outer:ax!} {s:Shared} {H:Hp} {E:XK},Al k o3_->Vm (o4!).nox [] hx bQ_ q,q8_,W.fnOf "__init__" qual jD_ bQ_ bE_ .none kV br pm an ag ct,q9_,∀b u,b≠e->h.get? b=some u->h'.get? b=some u]
def z'r:String:=z [ra!,.tbl (ps++pz),rb!,(∀b o,b≠I->b≠S->h.get? b=some o->h'.get? b=some o),rc!,(by rw[<-e];exact hl),rd!,λ_=>hz.1 rfl,re!,Around.under_plainId LU,rf!,Bm t M0 yy a ta wa out S kl ca,rg!,(by simpa using ur),rh!,(toString "max"++toString ".loop":String),ri!,(∀b,M0 b≠none->M' b=M0 b),rj!,OF jx λ_=>#[.int x t,.int x t],rk!,⟨o,(JI _ _ ur).trans e1,e2⟩,rl!,⟨o,(JI _ _ z6).trans e1,e2⟩,rm!,∀o∈ms,Nx yy S o,rn!,Array GenState,ro!,.builtin "max",rp!,[t_,ap!,aV_,kP!,some fO!],rq!,λx J=>hk x aU_,rr!,⟨_,ay,bd,hL,r'⟩,rs!,⟨#[],by rw[e];simp⟩,rt!,λb u e=>?_,ru!,vp.mem_iff.mp ho,rv!,[ak!,S!,"ahead","follower"],rw!,storeName X.env x u,rx!,[ak!,a2!,"parent",l7_,"place"],ry!,⟨ip_,ip_,I.base.free,ro_,I.base.tups,I.base.frzs,I.base.tbls⟩,rz!,λj y v' e1 e2 e3=>?_,rA!,(by simpa using I.len),rB!,[eM_,"words",cq_],rC!,⟨u',r',?_⟩,rD!,z.sameBut hs (cne y c e),rE!,[t_,iu_,some L_,none],rF!,(Mv.of fr).trans mv,rG!,(l.filter λx=>p x||q x),rH!,[J_,cq_,"known"],rI!,Zy X.K own f,rJ!,[J_,"deed",S!],rK!,"_law_found",rL!,ta Z H λx H1=>tb Z H1 λy H2=>R x y H2,rM!,(by rw[hp.length_eq];exact hS),rN!,λv al=>wpAny e_ X.A vT! (λu ao=>wpAny e_ X.A (f v u) Q X.xe ao) X.xe al,rO!,[bh_,"_law_last",cr!],rP!,[b2_,ay!,wk_,wl!,oi_,gh_,aF!],rQ!,[b2_,ay!,c2!,"_law_above"],rR!,.Constant .none j pos,rS!,[c3!,bh_,b2_,ay!],rT!,(by rw[I.ok.glob];exact I.mod.glob.keeps I.bk),rU!,[bJ_,bh_,gh_,eP_,"_law_rest",c3!,c2!,"_law_undoes","_law_redoes","_law_third","_law_mine"],rV!,dI (f:=Aa 1) (d:=x) rfl,rW!,op==CmpOp.NotIn,rX!,b0w (jC (b:=true) (eK gi! (h.nob oM1) aM_ λK hK=>tX h.out hk rW_)),rY!,dM b2! λc s1 ⟨H1,I1,q1⟩=>?_,rZ!,h h1 s Z H Q I hw,r0!,dM (hc h1 s Z H _ I h) λd s1 ⟨H1,I1,q1⟩=>?_,r1!,f2 Ca n! cg!,r2!,⟨ok.mod,ok.kind,ok.glob,ok.blt,ok.above,ok.inj,ok.has,ok.cab,ok.hd,ok.frames,ok.stk,ok.exf,ok.bs,ok.bsz,ok.noex,ok.exfs,ok.funs,ok.frf⟩,r3!,⟨e.its,e.txt,e.num,r2_⟩,r4!,⟨e.its,by simp only[setT,e.txt],e.num,e.ch⟩,r5!,swapsWith e none pos.line X.env=pure false,r6!,aP (d:=gj_) rfl,r7!,.Return none pos,r8!,(λ_ s'=>∃σ H',Inv X h1 σ H' s'/\Q σ H'),r9!,⟨trivial,hR y⟩]
def z'rr:String:=z [ra_,(by simpa using b1),rb_,List.range cW_,rc_,h.get? b=some o,rd_,.builtin "max.loop" ⟨[.ref I,.none,.ref S],l0!⟩,re_,LV hS rfl ?_,rf_,(∀b,M0 b≠none->M b=M0 b),rg_,dn.map λo=>l0_,rh_,X.env.kindOf x=some .cell\/X.env.kindOf x=some .free,ri_,I.ok.noex b o e,rj_,some (.inr [.inl o.h,.inl o.n]),rk_,[t_,R_,ap!,U_,kP!,U_],rl_,λb hb=>(mup_ne (aV hb h0)).trans in_,rm_,(by simp[AN];omega),rn_,IT cY! I.ok.above,ro_,λb o e J=>?_,rp_,λi x v e1 e2 e3=>?_,rq_,(λ_ z=>nomatch z),rr_,.Pass ⟨0,0,0,0⟩,rs_,∀M',kP_->R .non M',rt_,∀b u,s.heap.get? b=some u->h'.get? b=some u,ru_,[ak!,S!,cY_,"ahead","follower"],rv_,ys.map λ_=>true,rx_,"operation_name",ry_,[ak!,rx_,a2!,"behind","text","ahead","k","sign",S!],rz_,[ak!,a2!,"first","many","k",S!],rA_,List.mem_of_getLast? e,rB_,[eM_,"words",gV!,cq_,S!],rC_,[eM_,eN_,ge_,cq_,S!],rD_,.obj t.B3 lz!,rE_,[J_,mb_,"fresh",cq_,S!,"same"],rF_,[J_,"fresh","times",S!,"time"],rG_,[J_,"many","found"],rH_,[J_,mb_,"many",cq_],rI_,Bool->Hp->Prop,rJ_,⟨by simp only[IK];unfold big;omega,?_⟩,rK_,([]++kl.flatMap (hs S)).map Op.v,rL_,∀v u s2 x y H2,Inv X h1 Z H2 s2->Bu x v->Bu y u->R x y H2->wpAny e_ X.A (f v u) Q X.xe s2,rM_,[bJ_,iw_,bh_,iw!,c1!,"_law_items_here",ay!,c2!,"_law_kinds","_law_kind","_law_sign","_law_names"],rN_,[bJ_,iw_,"_law_many",bh_,"_law_counts","_law_times",aF!,c1!,gh_,eP!],rO_,[bh_,rK!,cr!,gh_],rP_,.Constant bx! j pos,rQ_,[b2_,cr!,eP!,mj!,"_law_good",oi_,gh_,aF!,"_law_new",eP_],rR_,[bh_,b2_,"_law_undone_here",cr!],rS_,[c3!,c2!,bh_,b2_,ay!],rT_,.bl (decide (Ew W x)),rU_,bootBuiltins x=some u,rV_,op==CmpOp.In,rW_,(by rw[IV J];exact hK),rX_,dM (ha h1 s Z H Q I h) λc s1 e=>?_,rY_,⟨H1,I1,q1⟩,rZ_,f1 Ed (Ac mr! Ag),r0_,∀x,chl r1 x=chl r2 x,r1_,(by simpa using hs),r2_,a5c e.ch wi.rnd vi.rnd g1 g2,r3_,(by rw[e.its,ei,ew]at c1;exact c1),r4_,(by rw[e.its,ei,ew];exact c2),r5_,V.rows.length<5000,r6_,[dO!,.fn t.A8,.fn t.A9],r7_,(∀x∈xs,Ew W x),r8_,(∀y',R (.nx [t_,R_,B_,y']) M),r9_,.Subscript o i pos]
def z's:String:=z [sa!,(List.range 4).map λi=>D.int cS_,sb!,eval i X.env,sc!,cL H_ dQ_ (b0b h wi hk J hj),sd!,dM c5_ λv s1 ⟨x,H1,I1,r1,q1⟩=>?_,se!,cL H_ dQ_ (xF h hk J hq),sf!,(∀x∈xs,x∈W.its),sh!,De (fT (f2 Ar x! cg!)),si!,Ah (Wh (Px 1 x!)) (Am 2 (w2 Bt c6! C_)),sj!,(∀b∈fp,Ji X h1 H b),sk!,["enumerate","zip","dict_itemiterator","dict_reverseitemiterator","odict_iterator","itertools.zip_longest","itertools.pairwise"],sl!,f2 Eg v_ x!,sm!,Bb t.B4 "has" 2 gq! h_ dR!,sn!,(by simpa using hu),so!,Bo (Bb t.B5 "put_behind" 3 (Cv t) (w2 Bt cw! a4_) mE!),sp!,Ay t.B4 "numbers" h_,sq!,(∀y',R (.nx [t_,eW!,some x2,y3,y']) M),sr!,OS t M b o' ac W,ss!,hl h1 s Z H _ I h,st!,Bo (Bb t.B5 "put_behind" 3 (Cv t) (w2 Bt eV_ C_) (Ab gs_ mJ!)),su!,Cb st_ gs_ (wl bL_),sv!,.Name "range" p,sw!,f2 Ao dT_ M!,sx!,starEach [b] X.env=[iM_],sy!,Am 5 (wl (f2 Ao (Dp x! Aq by!) (Aw gt!))),sz!,w2 Bt eV_ u!,sA!,w2 Bt sp! u!,sB!,Bw (Bb t.B4 "signs_of" 2 (Do t) h_ am_),sC!,T.obj _ _ m9,sD!,IA _ (IA _ (kR hb e)),sE!,os.map (rp g),sF!,Av (De (fT (f1 At bz_))) (Cb u! sE_ (wl gv!)) Bn,sG!,d1f ha hb I h λv u s2 x y H2 I2 rx ry q=>ho h1 s2 Z H2 x y v u Q I2 rx ry q,sH!,fT (f1 At e0!),sI!,intBits_le_64 Y L,sJ!,Sw λi j=>.int (i - j),sK!,De (fT (f2 Ba bA_ (fC iS!))),sL!,De (fT (f2 Ba bA_ (fC iS_))),sM!,De (fT (f2 Ba bA_ (fC gx_))),sN!,rh=11/\rn=2,sO!,compareOp .NotEq,sP!,Am 1 (Ga t.B4 1 (Ir t) Af),sQ!,compareOp .Gt,sR!,Av sP_ (Bo (Ai 3 (Nt t) sQ_)) Bn,sS!,λx y H Q=>y=.non/\Q (.bl (decide (x=.non))) H,sT!,λx y H Q=>y=.non/\Q (.bl (!decide (x=.non))) H,sU!,λx y H Q=>r x y H Q\/r' x y H Q,sV!,wJ _ _ w.pl.srt,sW!,hc h1 s3 Z H3 _ I3 q3,sX!,Gr .str (srt _) [],sY!,tZ (o:=dW_) b8c,sZ!,l.map λh=>D.int (f h),s0!,⟨H,a3!,by rw[yL r];exact q⟩,s1!,(show False from e),s2!,wT (Ai 2 (Gb t) dZ!),s3!,wl (f2 Ak T_ C!),s4!,wT (w2 iP_ s3! iW_),s5!,Av s2! (Am 5 (w2 Bt (w2 Bt c8! s3!) (wl (f2 Ds (f2 Ak T_ w!) w!)))) (Av s4! Fh (Am 5 (Jj C_ a4_ aO_))),s6!,f2 Eg I! M!,s7!,(λxs H Q=>∃x,xs=[.str x]/\e2_=1/\Q s8! H),s8!,.int (x.cps.getD 0 0:Nat),s9!,.builtin "len"]
def z'ss:String:=z [sa_,ho h1 s Z H _ I h,sc_,(by rw[<-ev.its];exact J),sd_,(by show 0<=40;decide),se_,Pk (Ek b3_ b3_ Ny),sf_,.While c body [] pos,sg_,(by rw[z];exact hb),sh_,IQ (I.pin p hp).1,si_,letOwnedTupleGo tg b4! u,sj_,DU X h1 Z tg R,sk_,aP (d:=.lst hM!) rfl,sl_,a0k (eF dO_ mB_ i1) kd,sm_,Am 4 (Wz (wT sm!) C_ iI!),sn_,λb o hb e=>(sb.2 b hb).trans e,so_,Cb mC! u! a4_,sp_,Cb sp! u! (Ww (Ab a5_ Af) (wl c5!)),sq_,[t_,eW!,some x2,y3,y],sr_,b9w ho ha.ok hb.ok,ss_,(((mH!).toNat:Nat):Int),st_,Ay t.B4 "written" h_,su_,starEach [a] X.env=[dT!],sv_,.Call sv! [a] [] pos,sw_,starEach aq! X.env=[dT!,iM_],sx_,.Call sv! aq! [] pos,sy_,λc hc=>.inl hc,sz_,Av (wT (Bb t.B5 "holds" 2 (Hw t) sz! mJ!)) (Cb (Ay t.B4 "hidden" h_) cw_ eX!) Bn,sA_,.For tg iter body [] pos,sB_,λb hb=>(iN!).1,sC_,step x H5 y5,sD_,I7.pin (b,o) sD!,sE_,wl (f2 Ak a6! w!),sF_,Value->Sem Value,sG_,.int bA! s.toks,sH_,⟨.int bA!,H,a3!,L!,q⟩,sI_,De (fT (f2 Ba bA_ iR_)),sJ_,binaryOp .Mult,sK_,K24.hs os h=[],sL_,Ab b4_ (Ab iI! (Ab b3_ Af)),sM_,De (fT (f2 Ba bA_ (fC dP_))),sN_,De (fT (f2 Ba bA_ (fC iT_))),sO_,rh=12/\rn=1,sP_,wT (w2 eX_ a4_ C_),sQ_,Ab u! (Ab a4_ (Ab (wl mX!) Af)),sR_,compareOp .Is,sS_,compareOp .IsNot,sT_,Fn t.B3 "outline" h_ b3_,sU_,Hc c8! u! m0!,sV_,Xb r r' ta tb tc,sW_,Az (wl (f1 Dm dP!)),sX_,tZ (o:=uO tu g) wL,sY_,Av (wT (w2 (λ_=>Ca) m1! b3_)) (Fn t.B3 "outline" h_ (Ai 1 (Kg t) m1_)) Bn,sZ_,Bb t.B3 "have" 2 gz_ h_ (Ab (wl m2_) Af),s0_,Av (wT (w2 iP_ (Bb t.B3 "have" 2 gz_ h_ am_) a5_)) (Az a5_) Bn,s1_,Az (w2 Bt (w2 Bt (w2 Bt c8! u!) (wl (Yy w!))) (wl S_)),s2_,(by rw[e];exact HQ),s3_,.builtin "abs",s4_,(λxs H Q=>∃i,xs=[cu!]/\Q (.int iX!) H),s5_,.builtin "ord",s6_,[if_,.int (gB_+1)],s7_,Av (De (fT s6!)) Fh Bn,s8_,eO bt_ hA.ob hF1,s9_,⟨.int m_,H,a3!,⟨_,by simp only[HS];rw[ap]⟩,q⟩]
def z't:String:=z [ta!,f2 Ak M! C!,tb!,aP (d:=.tup s6_) rfl,tc!,Av tb_ Fh Bn,td!,W.plainGet K C name=true,te!,aP (d:=fx!) rfl,tf!,fT (f1 Rr (Ac m6! Ag)),tg!,λd j3=>?_,th!,c9!<=sizeLine,ti!,.tup [et_,p.nm],tj!,Av ti_ (Ah (Bo (Ai 2 (Ki t) c8_)) (Az (w2 Mi dY_ (Ai 1 (Fe t) aY!)))) Bn,tk!,W.makesIn K C=true,tl!,∀x∈s2 os tu rh rn g,x.tm<tp,tm!,Ai 2 (Kf t) dZ!,tn!,Ai 1 (Cq t) aY!,to!,.tup [fG_,.int o.n,hH!],tp!,Av (De (Ct to_)) Fh Bn,tq!,(show∃t,u=Value.int i t from r),tr!,Ai 2 (Eb t) c8_,ts!,Aa 1 ρ=some ia!,tt!,aP (f:=fC nu!) rfl,tu!,Bf 1 [] (Bw sU_) E_ (De (Ct tt_)) (wl mr!),tv!,.ins C dx (Li f y fs),tw!,w2 Mi C_ (Qi (Ab (Ai 1 (Jl t) aY!) am_)),tx!,FH q1 q2 ρ R,ty!,.int ((1:Nat):Int),tz!,.Attribute e f pos,tA!,Bl (f2 Ak n! (f2 Bz v_ dM_)),tB!,backTo pos (starEach args X.env),tC!,s2 os tu rh rn x.nm++c9_,tD!,.Call (.Attribute e m aj) args [] pos,tE!,Gr .str nd_ [],tF!,fT (f2 Ba gv! (fC gx_)),tG!,dM (h pos h1 s Z H _ I hq) λus s1 ⟨xs,H1,I1,r,z,q⟩=>⟨by rw[<-r.length];exact z,?_⟩,tH!,I1.laid (t':=s1.toks) (λb u e=>HM _ e) y! ?_,tI!,Rv (Eu (f1 Bp (Ac (f2 Ak a6! al_) Ag))) Q_ (Px 1 tH_),tJ!,f2 Bz (f2 Ck v_ (f2 Ao w! (f2 Eh al_ n!))) (fC (.int 41)),tK!,Cp 4 (f1 Bv (Ac n! dP!)),tL!,aP (d:=.lst nb_) rfl,tM!,Cp 6 (f1 Du (Ac (f2 Ao (Dp I! (Ap w!) Aq) (Dp I! Aq (Ap w!))) nh_)),tN!,Cp 7 (f1 Du (Ac (f2 Ao I! (fC (.lst i6!))) (Ac (f1 Bv (Ac n! (Ac (f2 Ao v_ S_) Ag))) Ag))),tO!,bN (oW lt! rfl) rfl,tP!,Cp 9 (f2 Ak bj_ (f2 Bz T_ i6_)),tQ!,.Attribute o m aj,tR!,starEach aO! X.env,tT!,backTo pos tR!,tU!,starEach [] X.env,tV!,Gr .str nm! [],tW!,I.hok.fresh (QB _),tX!,(Value.ref ag_::e6_),tY!,Cp 10 (f1 Du (Ac (f1 Me bz_) (Ac (f1 Bv (Ac n! (Ac (f2 Ao v_ c5!) Ag))) Ag))),tZ!,.Call (.Name x p) [] [] pos,t0!,Gi (fT (f2 Ba a7! (fC gx_))) (Bl (Aw (Ac a7! (Ac bj! (Ac gI_ (Ac (f1 Ol (Ac (f1 Bv (Ac n! (Ac (f2 Ao v_ nm_) Ag))) e0!)) Ag)))))) Cs,t1!,f2 Ck T_ i6_,t2!,(by simpa using L),t3!,cellsFrom ag_ scope.names [],t4!,([]:List Addr),t5!,[aa_,some (.lst gJ_),some (.int ja!),none,none,none,none,none,none,none,none],t6!,λb z=>absurd z (sn b),t7!,Bl (Aw (Ac a7! (Ac (f1 Du (Ac (Aa 11) nh_)) Ag))),t8!,aT (mL T) a_ rfl bN_ az_,t9!,gK (fJ (lJ oA rfl T.S8 rfl T.T6 dC rX F!))]
def z'tt:String:=z [ta_,Am 4 (w2 Bt (w2 Bt u! aO_) (wl S_)),tb_,wT (w2 (λ_=>Kq) a4_ (Hc C_ gC_ (Ai 2 (Ex t) (Ab h_ (Ab gC_ Af))))),tc_,Cb C_ gC_ a4_,td_,W.hasDictIn K C=true,te_,f1 (Cc t) aN!,tf_,Value×List Value->Shared->Prop,tg_,some (.builtin "object.__setattr__"),th_,Am 2 (Bf 1 [0] (Bw gB!) E_ (wT (Ai 2 (Hg t) (Ab u! aY!))) h_),ti_,wT (Ai 2 (Hg t) c8_),tj_,Result->Shared->Prop,tk_,W.findIn K ay_ "__init__"=some e3!,tl_,Bo (Ai 2 (Fs t) c8_),tm_,s2 os tu rh rn g++c9_++[vO tv],tn_,Ah (Av (Ip (wT (Bb t.B4 "has" 2 gq! C_ am_))) Fh Bn) dU_,to_,fT (f1 Dw bz_),tp_,Bb t.B4 "has" 2 gq! tn! am_,tq_,(show∃t,u=Value.str x t from r),tr_,Bb t.B4 "children_of" 2 (Dr t) tr! am_,ts_,["check","part"],tt_,fT (f1 At aN!),tu_,Bf 1 [0] (Iw c8!) E_ bk! (Ai 2 (Ex t) (Ab u! aY!)),tv_,(by rw[e];exact i2!),tw_,if g=f then some u else mA g,tx_,λb u q=>HM _ q,ty_,Bf 1 [1] (Bw (Ai 2 (Kr t) (Ab h_ (Ab iW_ Af)))) E_ (wT (w2 eX_ h_ u!)) h_,tz_,s2 os tu rh rn x.nm,tA_,⟨x.h,x.n,rfl,(i3_).hb.1,(i3_).hb.2,(i3_).n1,(i3_).n2⟩,tB_,keywordEach [] X.env,tC_,f2 Ao v_ w!,tD_,(by obtain⟨_,_,_,z⟩:=j4.hob;rw[z];simp),tE_,.Tuple es x1 pos,tF_,some (rO rh rn x.nm).v,tG_,(λo ho=>by have:=(mR_).1;omega),tH_,Aw (Ac bA_ (Ac e1! e0!)),tI_,srt (os++[uO tu x.nm]++nf_),tJ_,f2 Ak x! tJ!,tK_,Cp 5 (f1 Mf bz_),tL_,upd H1 dx ij_,tM_,λv H2=>v=.non/\Q f6_ H2,tN_,Gi (fT (Em "str" bL_)) (Cp 7 cg!) Cs,tO_,Cp 8 (fC (.lst [iR!,iR!,iR!,iS!,iS!,gx_,gx_,dP_,iT_,bk_,cx_,iS_])),tP_,dM mJ_ λus s1 ⟨vs,H1,I1,r,q⟩=>⟨I1.kIn,?_⟩,tQ_,bN rfl (bN rfl tO!),tR_,rO (11+m'%2) 2 x.nm,tS_,Gi (fT (f2 Ba a7! iR_)) (Bl (Aw (Ac a7! (Ac (f1 Du (Ac I! nh_)) nk!)))) Cs,tT_,⟨I2.kIn,?_⟩,tU_,.cons rfl .nil,tV_,Gi (fT (f2 Ba a7! (fC iS!))) (Bl (Aw (Ac a7! (Ac bj! (Ac (f1 Du (Ac I! (Ac (f1 Bv (Ac n! (Ac (f2 Ao v_ al_) Ag))) Ag))) nk!))))) Cs,tW_,Gi (fT (f2 Ba a7! (fC iS_))) (Bl (Aw (Ac a7! mI!))) Cs,tX_,[aa_,f0!,gE!,dz_,nh!,t_,eW!,some (nj!).v,some (tR_).v,none,none],tY_,X.mg x=some ay_,tZ_,(∀v,(x,v)∉binds),t0_,(by rw[l1];omega),t1_,(by simpa using Y),t2_,Gi (Cz (fT (f2 Ba a7! (fC dP_))) (fT (f2 Ar gI_ cg!))) (Bl (Aw (Ac a7! (Ac bj! (Ac gI_ (Ac (f2 Ao w! (f2 Bz t1! (f2 Ds gj! (f2 Ak gI_ S_)))) Ag)))))) Cs,t3_,Ph CX P w K mg base N qual scope f cd A outer s H E,t4_,(show b∈t4! from z),t5_,Gi (fT (f2 (Vh false) a7! (fC (.tup [dP_,iT_])))) (Bl (Aw (Ac (fC iT_) (Ac bj! (Ac (f2 Bz t1! c5!) (Ac (f2 Ds (f2 Bz (f2 Ck T_ (fC (.int 48))) (fC (.int 2000))) (fC (.int 1000))) Ag)))))) Cs,t6_,Cp 11 (f2 Ao (Hx 1 [] (Ep x!) E_ a3_ (Aw gG!)) (Dj (Ac (Aw (Ac C! (Ac (f2 Ao w! (f2 Bz T_ nm_)) Ag))) Ag))),t7_,x.above y c (LL h),t8_,Option Value,t9_,W.fnOf name qual params body scope dV kV br pm an ag ct]
def z'u:String:=z [ua!,∀vs H Q E,sp vs H Q E->bB!=V_,ub!,Cp 7 (f1 Bv (Ac n! (Ac ua_ Ag))),uc!,Vb 4 bj_ (f2 Ao (Mg 4 bj_) w!),ud!,Vb 5 bj_ (f2 Ao (f2 Ao (Mg 5 bj_) w!) (f2 Bz (f2 Ck bL_ al_) al_)),ue!,aT (iV T) a_ rfl (aE jb_ aJ) az_,uf!,dM mJ_ λus s1 ⟨vs,H1,I1,r1,q1⟩=>hc h1 s1 Z H1 vs us Q I1 r1 q1,ug!,aT (iV T) a_ rfl bN_ az_,uh!,fX b1a b1i F! dJ p_,ui!,fT (f2 Mo M! C!),uj!,Wh (Xe 1 M! x!),uk!,if v<0 then max nt! 0 else min v (n:Int),ul!,Cb u! sE_ (wl (f2 Ba gv! eY!)),um!,s.heap.IsSliceOf sl vl vu .none,un!,fT (f2 Kd I! gN_),uo!,fT (f2 Eg un_ x!),up!,fT (f2 Ar M! cg!),uq!,qQ x_ d5! u_ nv_ dd!,ur!,Am 5 (wl (f2 Ao bj! w!)),us!,Ac (Aw (Ac v_ bz_)) Ag,ut!,sIx items.size items.size hi - sIx items.size 0 lo,uu!,Dp T_ e9! Aq,uv!,Am 3 (Bf 1 [1] nv! E_ (De (fT jg!)) (wl dN!)),uw!,ux!==0&&(1:Int)==1&&ut!==dd_,ux!,((sIx items.size 0 lo:Nat):Int),uy!,Option Int->Hp->Prop,uz!,Ab h_ (Ab C_ am_),uA!,Ab h_ (Ab u! ny_),uB!,Ac m2_ (Ac m2! Ag),uC!,s3.heap.objs.size,uD!,mS (fR (aT (mN T) a_ rfl bN_ az_)),uE!,JB (vD xs lo hi) hz,uF!,w2 Bt nD_ b4_,uG!,f1 Bp (Ac I! Ag),uH!,f2 Ba uG_ dT_,uI!,f1 Bp (Ac a6! Ag),uJ!,Ac (f2 Ao x! (Aw aN!)) (Ac (f2 Ak nz! n!) (Ac (fC z_) Ag)),uK!,f2 Ao (Dp I! Aq fa!) bj_,uL!,Dp I! fa! Aq,uM!,call e8_ (v::us),uN!,(by rw[hj];simpa using ew),uO!,(Dp gP! Aq by!),uP!,slot_list_getitem.lookup,uQ!,(by rw[HS]<;>omega),uR!,Cb bl_ b4_ (Bf 1 [9] (Ia (Ep I!)) E_ bk! (Qi (Ab (wl aX!) (Ab (wl dN!) (Ab (Jw (wl dN_) (w2 eX_ (wl aX!) u!)) Af))))),uS!,Ek gN! m0! (Ek ji! Gy (Ek jk! Gy Ny)),uT!,Am 1 (Pk uS!),uU!,wT (w2 eX_ (wl (f2 Ak mX! C!)) nu_),uV!,JI _ _ (HR hb),uW!,Bo (Ai 2 Wc mE!),uX!,f2 Ak T_ bj!,uY!,f2 Ba dN! v_,uZ!,Bw (w2 Bt bl_ u!),u0!,Am 2 (Ai 1 Mr am_),u1!,Bw (w2 Mi u0_ (w1 Nr (Ab nL! Af))),u2!,if b then 1 else 0,u3!,Av (wT (w2 Pt (Ai 2 gR! dZ!) (Ai 2 Hl ny_))) bC! Bn,u4!,(show its.toArray.any gR_=its.any gR_ by simp),u5!,Av (wT (w2 Pt (Wy (Ab (Qi (Ab aO_ (Ab (Ai 2 gS! dZ!) Af))) Af)) u4_)) bC! Bn,u6!,(by simp only[HS]<;>omega),u7!,Az (w2 nM! (Ai 2 fb_ (Ab h_ (Ab (wl (fC ne_)) Af))) jg_),u8!,Am 3 (Ai 1 Mr dR!),u9!,⟨⟨o,e,ex.1⟩,λa e2=>?_⟩]
def z'uu:String:=z [ua_,f2 Ao v_ (f2 Eh (fC (.int 7)) bj!),ub_,Cp 8 (f2 Bz bL_ al_),uc_,aT (iW T) a_ rfl no_ az_,ud_,Cp 9 (Oq (f1 Ks (Ac n! (Ac (f2 Ao ua_ w!) (Ac M! (Ac nm_ Ag)))))),ue_,kU I hg hm hv ?_ hn bg,uf_,Px 3 (Aw (Ac (f2 Ak (fC (.lst [L_,(.int 5),(.int 15)])) bj_) (Ac (Mg 4 bj_) (Ac (Mg 5 bj_) (Ac a7! Ag))))),ug_,fX aA! cB F! aS p_,uh_,Am 3 (wl (Oq iD!)),ui_,fT (f2 BE (Aw (Ac (f2 Ak (Mg 1 jc!) S_) (Ac (f2 Ak (Mg 1 jc!) C!) Ag))) (Aw (Ac dT_ (Ac bA_ Ag)))),uj_,if v<0 then(nt!).toNat else min v.toNat n,uk_,wT (w2 by_ (wl gv!) nu_),ul_,((sIx n n hi:Nat):Int),um_,f2 Eg aX! v_,un_,f2 Ak (f2 Ak T_ I!) w!,uo_,Am 5 (wl (f2 Ao I! w!)),up_,fT (f2 Ba uX! ur_),uq_,De (Cz up! up_),ur_,Aw (Ac M! bz_),us_,f2 Ao (Dp T_ Aq e9!) (Dj us!),ut_,aG (gH T.V3 T.X0 l_ cz!),uu_,Str.ofString "__getitem__",uv_,cO (aE a8! no_),uw_,Av (De (Ct (λρ=>((M!) ρ).bind Va))) bC! Bn,ux_,qP x_ (iK cz! cz! xQ),uy_,wl (fC (.tup [gk!,iz!])),uz_,Ip (wT (Ai 3 Ms uz!)),uA_,Bo (Ai 4 Gq uA!),uB_,fX aA! cB jj_ aS p_,uC_,Am 4 (Wi gO! (wl (f2 Ba e1! eT!))),uD_,Ab h_ (Ab aO_ (Ab (wl (Lb (fT T_) e1! iz_)) (Ab gw_ Af))),uE_,(r.drop nB_).take nC!,uF_,Cb uF! gw_ (wl a6!),uG_,f2 Ak (f2 Ak I! bL_) C!,uH_,Av (De (fT uH!)) (Am 6 (wl (f2 Ao bL_ w!))) Bn,uI_,e1.trans e2.symm,uJ_,Am 8 (Bf 1 [2,3] (Ia (Eu uI!)) E_ bk! (wl (Aw uJ!))),uK_,aB (fX nT nX Z! dJ p_),uL_,Cb bl_ b4_ (wl (f2 Ao uK! uL!)),uM_,⟨z,H,I,ak,q⟩,uN_,Am 9 (Bf 1 [2] (Ia (Eu a6!)) E_ bk! (wl (f2 Ao uO! (Aw nI!)))),uO_,f2 Ak gP! S_,uP_,λr s'=>r=w/\EP X h1 Z Q r s',uQ_,bU (gF T) a_ l_ fa_,uR_,(·.setIfInBounds j u),uS_,bF T.V4 T.W4 l_,uT_,Am 2 (Ai 1 Mp aY!),uU_,Ac ta! (Ac (f2 Ak M! w!) Ag),uV_,Ip (wT (Hc C_ (wl (Aw uU_)) jg_)),uW_,upd H p (.lst (xs.set j v)),uX_,bM aY_ tH Z! aq_ p_,uY_,(by rw[hk];exact⟨_,I',q⟩),u0_,wl (fC (.lst [gk!,iz!])),u1_,if a then 1 else 0,u2_,Uw (wT (w2 (λ_=>Yd true) (Ai 2 fb_ dZ!) eX!)) (wT (w2 Pt (Ai 2 gQ_ dZ!) (Ai 2 Jn ny_))),u3_,λw hw=>xT rx fx r fs w ns!,u4_,Bf 1 [3] (Bw (w2 Bt C_ gN!)) E_ (De (fT jg!)) h_,u5_,λh' c' kp e=>fin its r' hz h' c' kp e,u6_,Av (wT (w2 Pt (Bf 1 [0,3] jq_ E_ bk! jr_) (w2 Bt (w2 Bt C_ jk!) aO_))) bC! Bn,u7_,(λ_ e=>nomatch e),u8_,Bw (w2 Mi u0_ (w1 Nr (Ab nM_ Af))),u9_,wT (w2 Pt (Ai 2 gQ_ nN_) (Ai 2 gQ_ nO!))]
def z'v:String:=z [va!,bX M_ bH jf_ u_ r!,vb!,Av (Uw (wT (w2 Pt (Ai 2 gR! nN_) (Ai 2 gR! nO!))) (wT (w2 Pt (Ai 2 gS! nN_) (Ai 2 gS! nO!)))) bC! Bn,vc!,backTo ah me_,vd!,List.replicate k xs,ve!,Am 1 (wl (f1 Md (Ac n! (Ac C! (Ac (f2 Ao w! (f2 Bz (f1 Bv (Ac n! (Ac mm_ Ag))) (fC (.int 8)))) Ag))))),vf!,Obj.mapSeq f,vg!,f2 Ao ve_ vf_,vh!,Am 2 (wl (f2 Bz (f1 Bv (Ac n! (Ac (fC (.int 61)) Ag))) iD!)),vi!,f2 Ak v_ x!,vj!,.cons ru .nil,vk!,.lst (xs++zs),vl!,gu.toArray.size,vm!,Ab (wl bj!) nN!,vn!,fC (.int 11),vo!,bF T.V3 T.X0 l_,vp!,Ac mm_ (Ac (Aw (Ac (fC cx_) e0!)) Ag),vq!,f2 Ba (f2 Ak bj_ C!) i6_,vr!,Bo (Ai 2 fe! nU!),vs!,Av (Uw (wT (w2 Pt (Ai 2 fe! (Ab cw_ (Ab (wl (Dj (Ac bj_ Ag))) Af))) dY_)) (Ip (wT (Ai 3 (Je t) (Ab cw_ nU!))))) bC! Bn,vt!,Bo (Ai 1 (Tf t) mJ!),vu!,Az (Jw (w2 nM! (Ai 2 fb_ (Ab cw_ (Ab (wl gI_) Af))) jg_) (Ai 2 (Om t) nU!)),vv!,λ_ _ _ _ _=>aZ (i:=0) (show([S!,ak!]:List Str).Nodup by decide+kernel) rfl b!,vw!,ns.map WData.int,vx!,aY sQ tG ba! aD,vy!,IB (f:=c_) w,vz!,eB (aO (uN T) a_ rfl bO_),vA!,⟨h.nd,H!,λa ha b hb=>by simp at hb;subst hb;exact λz=>h.no jA!⟩,vB!,λa ha b hb=>?_,vC!,bf.2.2 a ha b hb,vD!,(by rw[IK];exact hl),vE!,∀(w:World) (h:Heap),YP w h->(bQ!).In h,vF!,Xz K x qual st f fd,vG!,gi.2.2 _ this _ d!,vH!,K.lookup f=some ⟨oc,od,.func n3!,eh⟩,vI!,.inl (.inr ⟨o,e _ _ h⟩),vJ!,backTo pos me_,vK!,mup_ne (HR yf),vL!,ForInStep (List fi_),vM!,(∀b,b≠f->b≠p->M' b=M b),vN!,(by simpa using hk),vO!,(by rw[kz];simp),vP!,α->Shared->Prop,vQ!,⟨?_,⟨_,_,_,_,(mup_ne h.ne).trans mup_same,mup_same,K'⟩,h.ne⟩,vR!,(u++n::v++bP_),vS!,X.N[j]?=some x,vT!,eval b X.env,vU!,[.int a,.int b,.int c],vV!,IB (f:=c_) this,vW!,(by rw[<-z];exact hq),vX!,ForInStep.yield ok,vY!,⟨_,h.mem.mpr G!,rfl⟩,vZ!,λ_ _ _ _ _=>aZ (i:=0) (show([aF!,c3!,ay!]:List Str).Nodup by decide+kernel) rfl b!,v0!,[⟨tg,iter,de,0⟩],v1!,([]:List Value),v2!,(λv z=>by cases z),v3!,[bh_,rK!,cr!,aF!],v4!,λ_ _=>False,v5!,[c1!,iw!,mf!],v6!,fE (n:=10) rfl,v7!,Str.ofString "hidden",v8!,∀cl C ao bc fp,Qd cb! de tt,v9!,Zn NL.length ix wi g tt te]
def z'vv:String:=z [va_,⟨o,e,ex.2.1⟩,vb_,bX M_ bH uS_ u_ r!,vc_,Av (wT (w2 Pt (Bf 1 [0,4] jq_ E_ bk! jr_) (Bf 1 [1,4] jq_ E_ bk! jr_))) bC! Bn,vd_,List.replicate k its,ve_,Dp n! Aq (Ap al_),vf_,fC (.tup [(.tup [iS_,ne_])]),vg_,λ_ _ q=>HM _ q,vh_,(by rw[HS];omega),vi_,Am 3 (wl (Dp vi! Aq by!)),vj_,f2 Eg mr! v_,vk_,Bo (Ai 2 fe! (Ab cw_ am_)),vl_,Am 6 (Ga t.B3 2 (Gd t) (Ab (wl c5!) Af)),vm_,Bo (Ai 2 fe! vm!),vn_,Am 7 (wl (Aw (Ac vn! (Ac w! (Ac (f2 Ao (fC (.int 50)) (f2 Bz (f1 Bv (Ac n! (Ac (fC (.int 59)) Ag))) (fC gH!))) (Ac (Aw (Ac eY! e0!)) Ag)))))),vo_,aC (aO (qJ T) a_ rfl bO_) aI,vp_,Am 8 (wl (Aw (Ac (f2 Ao vn! (f2 Bz (f1 Bv (Ac n! (Ac (fC (.int 58)) Ag))) S_)) (Ac S_ vp!)))),vq_,Av (De (fT vq!)) (Am 8 (wl (Aw (Ac i6_ (Ac w! vp!))))) Bn,vr_,Heap.SameBut a s.heap h',vs_,Am 10 (Ai 3 (Wb t) (Ab cw_ (Ab (wl eT!) (Ab b3_ Af)))),vt_,aO (lO T) a_ rfl d8_,vu_,starEach [e] X.env,vv_,starEach [e,f] X.env,vw_,pre_splitW wg,vx_,aN aH aM (uD (i:=1) b_ vx! r!) aD r!,vy_,IB (f:=c_) z,vz_,⟨h.no,h.nd⟩,vA_,cH cR eJ rfl T.S9 eG (aE bC_ aJ),vB_,(by rw[P];simp[hm]),vC_,λz=>f9.2.2 _ z _ d! rfl,vD_,Params->W.Frag,vE_,(∀(s:Shared) (u:Value),BindsTo s fd jy! [(x,u)]),vF_,∀(kV br pm:Value) (an:a7_) (ag ct:Value) (us:i_),aw!=V_->bindArgs n3! db_=pure da_,vG_,bf.2.2 _ this _ d!,vH_,.inl (.inl (e _ _ h)),vI_,⟨o.slots,e⟩,vJ_,Str×NameKind,vK_,ForInStep.yield ((name,a)::r),vL_,bX M_ bH bm_ bm! r!,vM_,aX (i:=5) iR.nd rfl b! vL_,vN_,(if(k==g0_)=true then _ else _)=_,vO_,λp hp=>hn p jF_,vP_,pT cells r _ x h,vQ_,V->V->Hp->Prop,vR_,Cm.cons (j:=2) Cm.nil,vS_,∀b∈fp,b<N!,vT_,[.int a,.int b],vU_,u'++[dk_]++v,vV_,bX M_ bH aP_ a9! r!,vW_,aZ (i:=4) nQ.nd rfl aH!,vX_,bL (sc:=Ad Mm) rfl k!,vY_,Cm.cons (j:=4) Cm.nil,vZ_,[bJ_,aF!,c1!],v0_,bE (bW (aN aH aM F! (aY eP eQ Z! gL!) r!)),v1_,([]:List (Str×Value)),v2_,aY aQ bO Z! aD,v3_,if x=n then[.int 0,.int 0,.int 0,.int 0]else W.num x,v4_,λ_ _ _ _ _=>uv_,v5_,I8.pin (b,o) sD!,v6_,eval ct_ X.env,v7_,X.env.kindOf y.1=some .cell\/X.env.kindOf y.1=some .free,v8_,∀cl C ao bc fp,PE cb! ez te,v9_,dM (be h1 s Z H _ I h) λv s1 Y=>dM Y λv0 s2 L=>?_]
def z'w:String:=z [wa!,⟨JG (IT hb hC),JG (IT hb hD)⟩,wb!,λb o hb e=>(b6.2 b hb).trans e,wc!,.inr (JB I2.sz hC),wd!,λx c h=>(wc_).1,we!,aY eP eQ bC_ aD,wf!,∀a vs,Fz K H a vs->Fz K H' a vs,wg!,An.map ht hl hd xs vs r,wh!,λ_ _ q=>cD e q,wi!,λ_ _ q=>b3e e q,wj!,aY nU nV bC_ aD,wk!,aY eP eQ wj! aD,wl!,"_law_sibling",wm!,mup_ne (HR p2),wn!,⟨v,Y,L.mono x.g⟩,wo!,aZ (i:=3) nO.nd rfl aH!,wp!,Z[i]?=some ce!,wq!,(by rw[z];exact j0),wr!,⟨ax b ei!,hr⟩,ws!,⟨λh1 s Z H Q I ⟨G,ρ,d,er,e,k⟩=>h h1 s Z H Q I or_⟩,wt!,∀Z G H Q ρ d,OR X.K own G H Z ρ->ft ρ=some d->(∀G' H',Co G H G' H'->Q d H')->t Z H Q,wu!,cutT [s] bp_,wv!,((jV_).map c_)=_,ww!,cH cR eJ rfl T.S9 eG de!,wx!,c0b hr ha.ok hb.ok hs,wy!,λx H'=>∃k,x=.bl k/\Q k H',wz!,⟨d,rfl,ow_⟩,wA!,(by rw[show B+(js.length+1)=B+1+js.length by omega];simpa using h'),wB!,T.X1 _ rfl rfl rfl rfl,wC!,b8z ha.ok hb.ok,wD!,(el!).map λk=>.tup hh_,wE!,(el!).map λk=>z+bg!,wF!,c0d ha.ok hb.ok,wG!,λv G2 H2 s2 r2=>k v G2 H2 dp! r2,wH!,k _ G1 H1 s1 Ax.bl,wI!,k _ G1 H1 s1 Ax.bl,wJ!,a7d hc.ok ha.ok hb.ok,wK!,dZ h.ok hs.ok b9,wL!,s1.trans (Co.laid s1.sub hp),wM!,ax _ fr_ fr_ fr_,wN!,xD hc hg hm hv ha.ok hn bg he a7,wO!,(aO!).length=V_,wP!,∀ρ ds,fs ρ=some ds->h!=n,wQ!,(by rw[JV];decide),wR!,eO bt_ hob hF4,wS!,k _ G H aT! Ax.str,wT!,.int (k0:Nat),wU!,∀i j H,Ax K H bA! (gv i j),wV!,k _ G H aT! (hg _ _ G),wW!,λ_ j=>decide (0<j),wX!,λi j=>decide (0<=j)&&decide (j<=1000000)&&decide (gw!<2 ^ 64),wY!,.bl (Sc i j),wZ!,[ch!,ch!,ch!,ch!],w0!,s4.trans j6!,w1!,mup_ne (nq c (gb c j7_)),w2!,aT (fG T) a_ rfl (aE F! or!) aG!,w3!,mup_ne (nq c hc),w4!,aY aQ bO jb_ (fE (n:=14) rfl),w5!,aE (cO (aE aS jm!)) aJ,w6!,aE aD (aE aD w5!),w7!,cL H_ aM_ (wH h hk J),w8!,.builtin "all",w9!,i=h!->af.stop i H']
def z'ww:String:=z [wa_,aT (fG T) a_ rfl (aE F! (aE v2_ aJ)) aG!,wb_,.obj t.B4 Z_,wc_,fw c (qc x c h),wd_,λx c h=>(wc_).2,we_,aE (aT g6_ a_ rfl (aE aQ! g7!) aG!) (aE dg! aJ),wf_,∀a kvs,Rd H a dY!->Rd H' a dY!,wg_,w.sg x J q hq,wh_,λ_ _ q=>e.seq q,wi_,⟨a,vs,rfl,h,r⟩,wj_,.inr (.inr ⟨f7_,rfl⟩),wk_,"_law_parent_here",wl_,r.mono (iS h),wm_,∀a p,(a,p)∈W.rows->rk p<rk a,wn_,(∀p,bb_∉W.rows),wo_,λz=>r1 (q.mpr z),wp_,bL (sc:=Ad Ml) rfl k!,wq_,aE aD (aE aD or!),wr_,aY aQ bO Z! (aY sR sT aD bD_),ws_,uD (i:=4) b_ bE! r!,wt_,uD (i:=5) b_ bE! r!,wu_,bU (iI T) a_ l_ (aC g0! aI),wv_,jG (i:=2) (NL:=bh!) (NF:=af_) (ix:=[0]) dY.nd rfl b! rfl b_ k! (bL (sc:=Ad Es) rfl k!) ju! b_ rfl (eB hd_) (λ_ _ _ _ _=>aZ (i:=0) (show([cq_,J_]:List Str).Nodup by decide+kernel) rfl b!) W! (λ_ _ _ _ _=>oP (eZ (aO (pE T) a_ rfl (aC u_ bO_)))) gW!,ww_,b3x ho ha.ok hb.ok hm,wx_,b3o ho ha.ok hb.ok hm,wy_,(show(ts_:List Str).Nodup by decide+kernel),wz_,⟨_,_,_,_,_,_,_,_,_,_,_,_,q1⟩,wA_,⟨b3n h.ok⟩,wB_,⟨b8y h.ok⟩,wC_,⟨G1,ρ,d,dn_,e,λG2 H2 s2=>k G2 H2 dp!⟩,wD_,c7g ha.ok hb.ok,wE_,⟨b9x h.ok⟩,wF_,(U++(s,c,true)::v),wG_,λv G1 H1 s1 r1=>?_,wH_,c7k ha.ok hb.ok,wI_,Bg M1 a5 oz!,wJ_,(by rw[z];exact hA.r5),wK_,(by rw[<-aL r1];exact gJ hl),wL_,s1.sub.free hp,wM_,⟨r,f,p,g1,?_,g3,g4,g5⟩,wN_,Yk X.K ps.length g,wO_,∀ρ ds,fs ρ=some ds->h!=V_,wP_,(by rw[IG];omega),wQ_,[aS_,aR!,.int (k':Nat)],wR_,setT W i (U++(oC!).map em!++v),wS_,⟨_,_,_,rfl⟩,wT_,(D.tup j5_,D.str ar!,true),wU_,setT W i (U++oE_::v),wV_,(by rw[hl,IU];exact IS _ z),wW_,λ_ j=>decide (0<j)&&decide (j<1073741824),wX_,if i∈W.its then setT W i (wrT b en_ bp_)else W,wY_,Ae->Option oG_,wZ_,Bg eo_ a4 ep!,w0_,K5 c (oL_).1 (oL_).2.1 (oL_).2.2,w1_,K5 c (oM_).1 (oM_).2.1 (oM_).2.2,w2_,if c=r1 then _ else _,w3_,bL (sc:=Ad Qo) rfl k!,w4_,aC (aB bD_) oc!,w5_,λa z=>(by subst z;cases e2),w6_,(λxs H Q=>∃x n,xs=[x]/\AX K x H n/\Q gC! H),w7_,c≠r1/\c≠f1/\c≠p1,w8_,(∀d,ds[i]?=some d->af.go i H'/\∀x ie,af.yld i H' x ie->∃tf,Co G' H' tf ie/\Ax K tf d x),w9_,⟨eq!,λhi=>by rw[IK,MF]at hi;exact PD hi.symm⟩]
def z'x:String:=z [x7!,Addr,x6!,Around,x5!,Value,xV!,World,xa!,St->Hp->Prop,xb!,hg.chl_same w.rnd,xc!,c1 r' ao_ ao_ ao_ ao_ ao_ ao_ ao_,xd!,((oV_).mono x3.g).mono x4.g,xe!,λx0 x1 x2 x3 x4=>(he x0 x1 x2 x3 x4).ok,xf!,λaf G1 H1 x1 f7=>?_,xg!,mup_ne (HR (nq a4 (gb a4 (s3 a4 A4)))),xh!,f ρ M λ_ M1=>q ρ M1 R,xi!,.Assign [cI!] e pos,xj!,.If c b1 b2 pos,xk!,⟨G',ρ,r,er.grow x',e2,k⟩,xl!,s.or.sub.trans zf,xm!,λz=>absurd z.symm cv,xn!,Bg M5 a3 (.dct oH_ (Gs k3 n e3)),xo!,[e].length+(d7!).length+fd!<30,xp!,.Call (.Attribute br! "append" aj) [e] [] ah,xq!,kB w.rnd ff z,xr!,DE X own ix fx,xs!,kD (rows:=W.rows) (i:=i),xt!,λiv G2 H2 x2 r2=>?_,xu!,λi hi p e=>?_,xv!,aw r' bG! bG! bG! bG! bG!,xw!,F.ok S (λvs H Q E h=>h.1) (λag A outer s H vs Q E hr h=>?_),xx!,⟨er,Co.refl sub,as!⟩,xy!,cs.map λ_=>true,xz!,(ki_).any λd=>En d aT_,xA!,(List.range (min us.toArray.size o5_)).all (λj=>En o4_ o5!)&&kk!==o5_,xB!,a6q I _ _ _ n n' r r',xC!,(n::r).map D.int,xD!,Ce g g' fa fb fc,xE!,⟨bb,rfl,?_⟩,xF!,nz.trans (s4.trans s5),xG!,L2.Key×Value,xH!,ha.ok h1 s Z H _ I h,xI!,mixKind X.prog X.w,xJ!,⟨_,_,rfl,b1,b2,b3,b4⟩,xK!,List D->Option D,xL!,.lst (.str "root"::ys),xM!,λi _=>fx_<=i,xN!,⟨(OZ.mp hc).1,λv ie hy=>?_⟩,xO!,.inr ⟨9,9,rfl,R!,R!,R!,R!⟩,xP!,some (.tup [.int h',aR!,.int tm,.tup z4!]),xQ!,λi h st=>VG _ i h st,xR!,.str (Txt.join z ys),xS!,dZ ha.ok gQ hs,xT!,s.heap.IsTupleIter jt tt n,xU!,Builtin.SmallTypes.nextOf (.ref jt),xW!,[none,some gC!,some qt_],xX!,letters.cps.toList.length,xY!,Obj.cls_mapFields ..,xZ!,firstArgMember _ _,x0!,wpAny_handled ?_,x1!,HK (wpAny_throw ?_),x2!,((eu!).extBut.push _).push _,x3!,xs[k1]?=some x,x4!,Builtin.«zip.__next__» ⟨[.ref z],[]⟩,x8!,Dk its fz_ none++Dk its none fz_,x9!,iw.extBut hs1.extBut D.l1z]
def z'xx:String:=z [xa_,(by rw[y];exact z),xb_,AS K 2 (Ul eU! (Ul (Oo j) AT)),xc_,⟨cY (by rw[<-aL ak];omega),?_⟩,xd_,Zy X.K [] ft,xe_,b3w cm cg j7 io cap calm be.ok hg hi xe! hs,xf_,DF X.K G0 F0 own hx f,xg_,DS X own bj st q1,xh_,swapsWith e (some dq!) pos.line X.env=pure false,xi_,b0y hN hi J h.ok hs hf,xj_,Ab kd_ (Ab (wl f2) Af),xk_,(λ(r:Fl) (M':Mh)=>match r with|.rt d=>R d M'|.nx _=>R .non M'),xl_,λj d q n=>?_,xm_,(λb u e=>by rw[bD (hG e)];exact s.or.sub b u e),xn_,.nx (ρ.set i (some (.lst (ds++[d])))),xo_,[D_,eq_,some a,en!,none],xp_,dZ h.ok gQ b9,xq_,ρ.set i (some (.lst (ds.set k d))),xr_,.Subscript br! ix p2,xs_,mH hN zg hd bz,xt_,(x.trans x2).h _ _ h3,xu_,Co G0 F0 G1 H1,xv_,Xz K x qual st ae fd,xw_,hb ag A outer s H E hr,xx_,cs.map λ_=>D.bl true,xy_,xB I xs ys vs n n' rr b7,xz_,(by unfold Bi at h;exact h),xA_,(by rw[HS,HS,<-h3,<-h4,<-Y,<-L];simpa using hl),xB_,A.units+Il d<cLine,xC_,⟨dx,dy,rx.mono sub,ry.mono sub,h.1.1,h.1.2,h.2,ep_⟩,xD_,⟨G,ρ,x,er,e1,λv G1 H1 s1 r1=>⟨G1,ρ,y,dn_,e2,λw G2 H2 s2 r2=>hg s2.sub he! r2 e3 λt G3 H3 s3 r3=>?_⟩⟩,xE_,(r2.mono s3.g).mono s4.g,xF_,.bl (if neg then !(ds.any λd=>En d x)else ds.any λd=>En d x),xG_,λh1 s Z H Q I h=>?_,xH_,c1r (k:=pb!) r1,xI_,λy=>NameG y,xJ_,Ok X.prog X.w X.K X.mg X.base k x ps g,xK_,(if kr!<=big then Option.map D.lst (Fp _ _ _ cK_ ops)else none)=_,xL_,λi _=>i<fx_,xM_,x.cps.toList.map λc=>.str ar!,xN_,∀i h,St' i h->∃o,h.get? it=some o/\∀v,o.data≠.cell v,xO_,λi h=>i<=fx_/\St' i h,xP_,[aC_,pc_,xP!,y],xQ_,ys.map V.str,xR_,⟨[],rfl,rfl⟩,xS_,λw G2 H2 s2 r2=>?_,xT_,s.heap.IsTuple tt xs,xY_,[some gC!,br_,some qt_],xZ_,(by first|rfl|(simp only[firstArgMember];rfl)),x0_,show A.in1.handled=none from hh,x1_,sSeq Za (sSeq dq14 dq15),x2_,sSeq CO (sSeq AU x1_),x3_,ys[k2]?=some y,x4_,[aa_,au!,aC_,br_,none,none,none,none,none,none,none,none],x7_,NM gz d! λY lu hs1=>?_,x8_,a3o x9_ x9! gx λL VH bq=>HK ?_,x9_,cG g1 hs1.extBut D.i1z]
def z'y:String:=z [yp!,Program,yR!,Shared,yS!,W.Frag,ya!,RD uc λh3 ww dh=>?_,yb!,Dk its fz_ none,yc!,LV uc rfl ?_,yd!,((ja.extBut hs1.extBut D.l2z).extBut bq.extBut D.l2i1).extBut dh.extBut D.l2TO,ye!,xs[k1]?=none\/ys[k2]?=none,yf!,Nat.ble ds.length 1000=true,yg!,HY (Nat.le_of_ble_eq_true hl),yh!,F.entry_zip_next,yi!,"StopIteration",yj!,("cut"==k||"set"==k),yk!,dX (g:=Vh false) (x:=.str k) rfl rfl (in2 k "cut" "set"),yl!,DB s.heap l1 l2,ym!,a7p rfl rfl e1,yn!,⟨fO.2.2.2.1,fO.2.1,fO.2.2.2.2.1,fO.2.2.2.2.2⟩,yo!,⟨f2.2.2.2.1,f2.2.1,f2.2.2.2.2.1,f2.2.2.2.2.2⟩,yq!,λc o _ _ _ e _=>vI_,yr!,λc o _ e=>⟨o,e⟩,ys!,(λc o u e=>by rw[po_];exact e),yt!,I1.hok c o e,yu!,(by unfold Cz;rw[rL rfl (LF _)];rfl),yv!,bootBuiltins "zip"=some pj!,yw!,(backTo pos (starEach [b] X.env)).any c_=false,yx!,⟨G,ρ,_,er,e1,λv G1 H1 s1 r1=>⟨G1,ρ,_,dn_,e2,xS_⟩⟩,yy!,a∈W.its/\Ew W b/\¬Wn W.rows a b,yz!,wrT b hE! au_,yA!,(oC!).map em!,yB!,D.tup ck!∉pre,yC!,Stp W pr_ d W',yD!,(og!).resolve_right e,yE!,hg.winv w.inv hc.1 hc.2.1 hc.2.2,yF!,setT W a yz!,yG!,W.fnOf x x jD_ bQ_ bE_ .none kV br pm an ag ct,yH!,W.codeIn K ag x=true,yI!,(List.range m'.toNat).map λk=>.tup hh_,yJ!,rows.map (AD w),yK!,ft ρ=some false,yL!,(λz=>by simp at z),yM!,⟨rfl,rfl,rfl⟩,yN!,fs.map V.ref,yO!,Ab kd_ (Ab (wl f2) (Ab (wl f3) (Ab (wl f4) Af))),yP!,Cb eV_ u! iI_,yQ!,(show v=.none from J),yT!,Mx ks k=some j,yU!,Option Nat->Shared->Prop,yV!,s.heap.get? d=some o,yW!,dictWalkPlain d u dv! es kI_,yX!,λx J=>h x aU_,yY!,λ_ K hK=>hK,yZ!,ks[i]?=some k',y0!,(by rw[<-e];exact q1),y1!,.tup [hH!,fG_],y2!,(a.map Op.key).Nodup,y3!,λx=>Ba x aT_,y4!,(show pF!=true by decide+kernel),y5!,Gr .str os acc,y6!,.nx [R_,ap!,y'],y7!,⟨trivial,hR M ep y hp λb _=>rfl⟩,y8!,Bg M p (.dct (As acc a U!) (Gs acc a ep)),y9!,λM' bd y' Y L=>hR M' bd y' y8_ L]
def z'yy:String:=z [ya_,hs1.extBut _ _ D.TOz gO,yb_,Dk its none fz_,yc_,cG (cG (cG g2 hs1.extBut D.i2z) bq.extBut D.i12.symm) dh.extBut D.TOi2.symm,yd_,dh.extBut _ _ D.TOz.symm (bq.extBut _ _ D.i1z.symm lu),ye_,hs1.extBut _ _ c1 x,yf_,if h!<=1000 then _ else _,yg_,⟨_,gz,rfl⟩,yh_,F.args_zip_next_1 _,yi_,[ds_,.int base,.lst ops,.int most],yj_,.tup [kp!,item,.int (m0 / 12%4),.int (m0 / 48%2000 - 1000)],yk_,DC s.heap l1,yl_,CZ s.heap l1 l2,ym_,⟨fz.2.2.2.1,fz.2.1,fz.2.2.2.2.1,fz.2.2.2.2.2⟩,yn_,⟨f1.2.2.2.1,f1.2.1,f1.2.2.2.2.1,f1.2.2.2.2.2⟩,yp_,λc o _ _ _ e _=>e,yq_,λc o hc e n=>?_,yr_,(λc xs e=>by rw[po_];exact e),ys_,λc ps e=>⟨#[],by rw[po_,e];simp⟩,yt_,(λd q=>by rw[pp_];exact q),yu_,X.mg "zip"=none,yv_,starEach aq! X.env=dT!::starEach [b] X.env,yw_,.Call (.Name "zip" p) aq! [] pos,yx_,(λx y H Q=>Sw (λi j=>.bl mW_) x y H Q\/∃i j,x=.str i/\y=.str j/\Q wY! H),yy_,a∈W.its/\Ew W binn/\¬Wn W.rows a binn,yz_,[aS_,aR!,hv!],yA_,Ff K mg x st ps,yB_,pre++[.tup ck!],yC_,Fo W pr_ rows',yF_,W.nsIn K mainGlobals x=some e3!,yG_,K.lookup f=some ⟨oc,od,.func yG!,eh⟩,yH_,∀(kV br pm:Value) (an:a7_) (ag ct:Value) (us:i_),aw!=V_->bindArgs yG! db_=pure da_,yI_,λv hv q hq=>?_,yJ_,ft ρ=some true,yK_,(Sum.inr r.1:L2.Key)=Sum.inr y,yL_,Sum.inr.inj z,yM_,[D_,eq_,some d],yN_,fs.map Value.ref,yO_,Cb cw! u! iI_,yS_,PQ hT NN.lookup ?_,yT_,k="undo"\/k="redo",yU_,Oy P w s.heap es ks,yV_,o.data=.dict es ep,yW_,(by simpa using b8),yX_,λe=>hh (by rw[q3,e];simp),yY_,.lst ((dv_).map kK!),yZ_,be=none/\rest.find? du_=Mx ks k,y0_,k="undo"\/k="redo",y1_,∀a,k' (f a)=k a,y2_,rK (s:=ey_) hu x hk ho hd ?_,y3_,(show pE_=true by decide+kernel),y4_,Gr .str os A,y5_,dictSet a u v,y6_,wE ho hc hd (by simp[Yu]),y7_,((Ak o.v bi!).bind λx=>Ak x aN_)=_,y8_,(by unfold Gr;rw[hu];exact Y),y9_,LX (s:=ey_) ho hd ?_]
def z'z:String:=z [za!,λo ho=>hd o (bx.mem_iff.mp ho),zb!,λM' ep y Y L=>hR p M' ep hp Y λb hb=>(L b hb).trans pJ_,zc!,Builtin.Dict.takeOut a u,zd!,(∀b,b≠q->M' b=M b),ze!,[R_,ap!,aV_,U_,z],zf!,[cO!,none,none,none,none],zg!,λi p h=>zf_,zh!,.obj t.B4 [],zi!,.ins C dx vs,zj!,Bg zh_ a1 B!,zk!,Hj P w K G H a c,zl!,MR P w K M1 G1 H1,zm!,(by rw[SG,q9];simp),zn!,.dct kT! (pP_).length,zo!,.obj t.B4 hN_,zp!,D->Mh->Prop,zq!,⟨λh1 s Z H Q I ⟨G,ρ,M,R,st,e,k⟩=>h h1 s Z H Q I pQ!⟩,zr!,∀Z G H Q ρ M R,Tl X.prog X.w X.K own G H Z ρ M->ft ρ M R->(∀d M' G' H',R d M'->XM M G H M' G' H'->MR X.prog X.w X.K M' G' H'->Q d H')->t Z H Q,zs!,Tl X.prog X.w X.K own G H Z ρ M,zt!,⟨G1,ρ,M1,R,kV!,r1,λd M2 G2 H2 r2 x2 m2=>k d M2 G2 H2 r2 cO_ m2⟩,zu!,λd M2 v G2 H2 r2 x2 m2 q2=>k d M2 v G2 H2 r2 cO_ m2 q2,zv!,x1.trans (.ext pT!) m1,zw!,x1.sub.free hp,zx!,⟨Y,L.mono (Bk.refl G) (bD hb)⟩,zy!,.dct pM! (Gs kvs d ep),zz!,kget kvs d=some x,zA!,(if root=binn then _ else(if binn=binn then _ else _))=_,zB!,.builtin "dict.get",zC!,Builtin.Dict.keyAndDefault,zD!,(∀x∈os,x.nm∉pre),zE!,[R_,D_,aV_,some x.v,z],zF!,NR (HK ⟨_,rfl,q3⟩),zG!,(show B+20*(os.length+1)=B+20+20*os.length by omega),zH!,(by rw[show Op.nm x=Op.nm y from z.symm];exact IB hy),zI!,vC (A:=X.A) a! I m sub e ⟨_,r,rx⟩ hk λs' I'=>HK ⟨.bl _,H,I',rfl,q⟩,zJ!,(∃pre,Rt W' pre),zK!,hp.mem_iff.mp J,zL!,(k1_).nodup_iff.mpr nn,zM!,some (.lst pZ!),zN!,So X.prog X.w X.K r g,zO!,⟨ys,z,rfl⟩,zP!,acc.map Op.v,zQ!,.int (cR_:Nat),zR!,[cO!,none,none,none],zS!,.Attribute o "get" aj,zT!,⟨yv,q2,ry⟩,zU!,(fO_).grow x2 m2,zV!,(cm_).mono x3.g,zW!,As acc u.2 fH!,zX!,⟨zv,q3,rz⟩,zY!,if _ then _ else k6_,zZ!,⟨_,dS!,yM!,rfl⟩,z0!,I.laid (t':=s.toks) vg_ y! ⟨⟨D0,KI.mpr (HR (JG I.big)),JS _⟩,let⟨o,h,_⟩:=D0;pU!,zx_⟩,z1!,List aD_->Mh->Prop,z2!,PUnit->Shared->Prop,z3!,Bg M c (.dct (acc++kvs) (n+aE_)),z4!,[ko_,a,b,dp_],z5!,∀q∈rs,Sd q.1/\Sd q.2,z6!,(match rs[k]? with|some q=>!decide (q.2=p)|none=>false),z7!,.bl (!decide ((fQ_).2=p)),z8!,Bg M s.heap.objs.size B!,z9!,DJ X.prog X.w X.K M0 G0 F0 own hx f]
def z'zz:String:=z [za_,(by rw[bx.length_eq];simp;omega),zb_,es.eraseIdx j,zc_,(by simpa using am),zd_,(λx=>by simp),ze_,(pL!).getD .non,zf_,(by simp[W0]at h),zg_,(by rw[cx,i1];rfl),zh_,Bg M o zh!,zi_,⟨by rw[HZ];exact b3m,H!⟩,zj_,.dct kS! (pN!).length,zk_,mup_ne (HR j1),zl_,(by rw[hM];simp),zm_,⟨?_,L.mono x.g ?_⟩,zn_,MR P w K M' G' H',zo_,List D->Mh->Prop,zp_,Zi X.prog X.w X.K own f,zq_,Bq fk_ (.fn a4) pR!,zr_,⟨_,by assumption,h⟩,zs_,⟨_,rfl,k _ M' G' H' r' x' m'⟩,zt_,k _ M1 G1 H1 r1 x1 m1,zu_,k _ M1 _ G1 H1 r1 x1 m1 Ax.bl,zv_,As jD! a0 b0,zw_,As jE! b0 a0,zx_,λY L z q=>?_,zy_,∀ay s',Inv X h1 Z kW_ s'->Hj X.prog X.w X.K G kW_ a zy!->Q () s',zz_,if root=root then _ else _,zA_,⟨_,rfl,JN h⟩,zB_,⟨o,rfl,h ho⟩,zC_,a5i I Y D' b6 h4 ?_,zD_,(∃TK,Rt W' TK),zE_,KL fin (λar s' ⟨e1,o,q1,q2,q3⟩=>?_) λ_ _ z=>z,zF_,h5 q (by rw[pf];simp) j0,zG_,λy hy z=>?_,zH_,⟨r',f',p',v1,v2.keep (k _ bG!) (k _ cJ!) (k _ cK!),v3,v4,v5⟩,zI_,(ops.map Op.nm).Nodup,zJ_,[cO!,D_,aV_,none,none],zK_,(λx _=>by simp),zL_,(by rw[e3,e1];exact hb),zM_,((j+1:Nat):Int),zN_,x1.trans k3_ m1,zO_,Co.laid sub hl,zP_,Addr×List aD_×Nat,zQ_,Bg M2 q.1 (.lst (q.2++[v])),zR_,[cO!,hU_,none,none],zS_,NX (ML (ha.run I1 fO_ r1 λy M2 yv G2 H2 iv s2 r2 x2 m2 q2 I2 ry=>OP ?_)),zT_,RO (a:=Str.ofString "undo"),zU_,hb.run I2 zU! r2 λz M3 zv G3 H3 jv s3 r3 x3 m3 q3 I3 rz=>OP ?_,zV_,⟨yv,q2.mono x3.g,ry⟩,zW_,Gs acc u.2 ep,zX_,[q.1,q.2.1,.bl q.2.2],zY_,s.heap.push {cls:=.type "dict",data:=.dict #[]},zZ_,dE s.heap.objs.size [] 0,z0_,⟨[],cC,.nil,NS⟩,z1_,MP X own pos keys jq fp,z2_,decide (q.2=x),z3_,λz=>Ba z x,z4_,ForInStep PUnit,z5_,(by rw[IG,LA];omega),z6_,Bp [.lst eC_]=_,z7_,(f1 Bp gt! bt!).bind (λz=>Kd fN_ z)=_,z8_,[O_,K!,cG!,ch_,hX!,hX_,y],z9_,((List.range' k m)).map λj=>D.int pZ_]
end
open Lean in
local macro_rules|`($s:ident)=>match s.getId with|.str .anonymous t=>let c:=t.back;if c=='!'||c=='_' then match (let b:=c=='!';if t.length<3 then if b then z'0 else z'00 else match t.front with|'a'=>if b then z'a else z'aa|'b'=>if b then z'b else z'bb|'c'=>if b then z'c else z'cc|'d'=>if b then z'd else z'dd|'e'=>if b then z'e else z'ee|'f'=>if b then z'f else z'ff|'g'=>if b then z'g else z'gg|'h'=>if b then z'h else z'hh|'i'=>if b then z'i else z'ii|'j'=>if b then z'j else z'jj|'k'=>if b then z'k else z'kk|'l'=>if b then z'l else z'll|'m'=>if b then z'm else z'mm|'n'=>if b then z'n else z'nn|'o'=>if b then z'o else z'oo|'p'=>if b then z'p else z'pp|'q'=>if b then z'q else z'qq|'r'=>if b then z'r else z'rr|'s'=>if b then z's else z'ss|'t'=>if b then z't else z'tt|'u'=>if b then z'u else z'uu|'v'=>if b then z'v else z'vv|'w'=>if b then z'w else z'ww|'x'=>if b then z'x else z'xx|'y'=>if b then z'y else z'yy|'z'=>if b then z'z else z'zz|_=>if b then z'0 else z'00).splitOn ("\r"++t++"\r") with|[_,f]=>do return z'Z (.fromRef (<-getRef)) f|_=>Macro.throwUnsupported else Macro.throwUnsupported|_=>Macro.throwUnsupported
open Lean in
local macro_rules|`(tactic|push_cast)=>`(tactic|show"pc!")|`(tactic|push_cast[$x,*])=>match z't't.splitOn "\rpc!\r" with|[_,f]=>do let s:=(z'Z (.fromRef (<-getRef)) f)[1][1][0][0][0];return s.setArg 4 (s[4].setArg 1 (mkNullNode (s[4][1].getArgs.push (mkAtom ",")++x.elemsAndSeps)))|_=>Macro.throwUnsupported
open Lean in
local macro_rules|`(tactic|show$s:str)=>match z't't.splitOn ("\r"++s.getString++"\r") with|[_,f]=>do let q:=z'Z (.fromRef (<-getRef)) f;let q:TSyntax ``Lean.Parser.Tactic.tacticSeq:=⟨q[1][1]⟩;`(tactic|($q))|_=>Macro.throwUnsupported
set_option hygiene true
open Lean in
def z'N:Nat->Syntax->Syntax
|n+1,.node _ k a=>.node .none k (a.map (z'N n))
|_,.atom _ v=>.atom .none v
|_,.ident _ r n p=>.ident .none r n p
|_,x=>x
open Lean in
local macro_rules(kind:=Lean.Parser.Command.declaration)|x=>if x.getPos?.isNone||x[1].isOfKind ``Parser.Command.theorem then Macro.throwUnsupported else let k:=z'N 9999 x[1];let u:=match k[1][0].getId with|.str _ s=>s.front.isUpper|_=>false;match k.isOfKind ``Parser.Command.definition,(x[0].reprint.getD "").trimAscii.toString,u with|true,"",false=>do return z'N 9999 (<-`(theorem $(⟨k[1]⟩):declId $(⟨.node .none ``Parser.Command.declSig #[k[2][0],k[2][1][0]]⟩):declSig $(⟨k[3]⟩):declVal))|true,"nonrec",_|true,"",_=>do return z'N 9999 (<-`(noncomputable def $(⟨k[1]⟩):declId $(⟨k[2]⟩):optDeclSig $(⟨k[3]⟩):declVal))|_,_,_=>return z'N 9999 x
open Lean in
local macro_rules|`(universe $x*)=>do let p:=`PySem.Challenge;let c:=p.str "cw_manyhands_k24_whole_back_holds";return mkNullNode (<-(p.str "pw_manyhands_k24_whole_back"::x.toList.map (λi=>c.str i.getId.toString)++(List.range 842).map λn=>c.str s!"o_{n+43}").toArray.mapM λn=>do return z'N 99 (<-`(noncomputable def $(mkIdent (PySem.W.Fast.stemOf n).1):ident:=0)))
universe env_41 heap_39 heap_46 heap_885 sts_109 sts_124 sts_167 sts_232 sts_262 sts_313 sts_49 sts_515 sts_552 sts_610 sts_64 sts_692 sts_777 sts_79 sts_858 sts_94 tree_108 tree_123 tree_166 tree_229 tree_261 tree_312 tree_429 tree_47 tree_511 tree_551 tree_609 tree_63 tree_691 tree_776 tree_78 tree_857 tree_884 tree_93 view_39
local macro_rules|`(tactic|omega)=>`(tactic|first|lia|omega +splitDisjunctions)
theorem z'Hd{G:Prop}(h:∀g:Prop,(G->g)->g):G:=h G λx=>x
local macro_rules|`(tactic|obtain $p:rcasesPatMed:=$e:term)=>do let s:=p.raw.reprint.getD "";if (s.splitOn ",").length>2+(s.splitOn "rfl").length then `(tactic|first|(refine z'Hd λg k=>?_;rcases $e:term with $p:rcasesPatMed<;>refine k ?_<;>clear g k)|rcases $e:term with $p:rcasesPatMed) else `(tactic|rcases $e:term with $p:rcasesPatMed)
noncomputable section
namespace L2
open PySem PySem.Spec PyProof.Rows
abbrev Key:=Sum Int Str
def Rm:Key->Value->Bool
 |.inl k,v=>Value.isInt k v
 |.inr x,v=>Value.isStrOf x v
def CK(w:xV!):Key->Int
 |.inl k=>hashInt k
 |.inr x=>hashStr w x
def bQ:∀{k:Key} {v:x5!},Rm k v=true->(∃i t,k=Sum.inl i/\v=Value.int i t)\/(∃x t,k=Sum.inr x/\v=Value.str x t)
 |.inl i,v,h=>by
  obtain⟨t,e⟩:=Value.isInt_shape (k:=i) (v:=v) h;exact .inl ⟨i,t,rfl,e⟩
 |.inr x,v,h=>by
  obtain⟨t,e⟩:=Value.isStrOf_shape (x:=x) (v:=v) h;exact .inr ⟨x,t,rfl,e⟩
def a1e(i:Int)(t:Tok):Rm (.inl i) dE_=true:=by simp[Rm,Value.isInt]
def tS(x:Str)(t:Tok):Rm (.inr x) lM!=true:=by simp[Rm,Value.isStrOf]
def c9w(a b:Int):decide (lL!=Sum.inl b)=f3!:=by
 by_cases e:a=b
 .subst e;simp
 .have h:¬lL!=Sum.inl b:=λq=>e (Sum.inl.inj q);rw[IF h];exact(KI.mpr e).symm
def c9t(a b:Str):decide (lN_=Sum.inr b)=decide (a=b):=by
 by_cases e:a=b
 .subst e;simp
 .have h:¬lN_=Sum.inr b:=λq=>e (Sum.inr.inj q);rw[IF h,IF e]
def c9v(a:Int)(b:Str):decide (lL!=Sum.inr b)=false:=IF qY!
def c9u(a:Str)(b:Int):decide (lN_=Sum.inl b)=false:=IF qY!
nonrec def mixKind(prog:yp!)(w:xV!):PySem.KeyKind prog w Key where
 is:=Rm
 hash:=CK w
 inj:=λv a b ha hb=>by
  obtain⟨i,t,rfl,rfl⟩|⟨x,t,rfl,rfl⟩:=bQ ha
  .obtain⟨j,u,rfl,e⟩|⟨y,u,rfl,e⟩:=bQ hb
   .injection e with e1 _;rw[e1]
   .exact lO_
  .obtain⟨j,u,rfl,e⟩|⟨y,u,rfl,e⟩:=bQ hb
   .exact lO_
   .injection e with e1 _;rw[e1]
 byValue:=λk v h=>by
  obtain⟨i,t,rfl,rfl⟩|⟨x,t,rfl,rfl⟩:=bQ h<;>rfl
 pyHash:=λhv h=>by
  obtain⟨i,t,rfl,rfl⟩|⟨x,t,rfl,rfl⟩:=bQ hv
  .exact wpAny_pyHash_int h
  .exact wpAny_pyHash_str h
 eqBool:=λhu hv h=>by
  obtain⟨i,t,rfl,rfl⟩|⟨x,t,rfl,rfl⟩:=bQ hu
  .obtain⟨j,u,rfl,rfl⟩|⟨y,u,rfl,rfl⟩:=bQ hv
   .rw[c9w]at h;exact wpAny_eqBool_int h
   .rw[c9v]at h;exact SeqAt.EqAt.int_str i t y u _ _ _ _ h
  .obtain⟨j,u,rfl,rfl⟩|⟨y,u,rfl,rfl⟩:=bQ hv
   .rw[c9u]at h;exact SeqAt.EqAt.str_int x t j u _ _ _ _ h
   .rw[c9t]at h;exact wpAny_eqBool_str h
 «strs»:=λk x t v h=>by
  obtain⟨i,u,rfl,e⟩|⟨y,u,rfl,e⟩:=bQ h
  .exact lO_
  .injection e with e1 _
   subst e1;cases v<;>rfl
def a7t(prog:yp!)(w:xV!)(i:Int)(t:Tok):(qY_).is (.inl i) dE_=true:=a1e i t
def mR(prog:yp!)(w:xV!)(x:Str)(t:Tok):(qY_).is (.inr x) lM!=true:=tS x t
end L2
namespace L2
open PySem PySem.Spec PyProof.Rows
inductive V where
 |non|bl (b:Bool)|int (i:Int)|str (x:Str)|byt (b:Array UInt8)|flt (b:UInt64)|ref (a:x7!)|ty (n:String)
 deriving DecidableEq
def Bu:V->Value->Prop
 |.non,u=>u=dF!
 |.bl b,u=>u=Value.bool b
 |.int i,u=>∃t,u=Value.int i t
 |.str x,u=>∃t,u=Value.str x t
 |.byt b,u=>∃t,u=Value.bytes b t
 |.flt b,u=>∃t,u=Value.float b t
 |.ref a,u=>u=Value.ref a
 |.ty n,u=>u=Value.type n
abbrev Bc:List V->List Value->Prop:=Paired Bu
def Bc.length{xs:n_}{us:i_}(r:ig_):m_=aw!:=MQ r
def Bc.get:∀{xs:n_} {us:i_} {i:Nat} {x:V},Bc xs us->xs[i]?=some x->∃u,us[i]?=some u/\Bu x u
 |_,_,_,_,.nil,e=>by simp at e
 |_,_,0,_,.cons r _,e=>by simp at e;subst e;exact lP!
 |_,_,i+1,x,.cons _ t,e=>by
  obtain⟨u,Y,L⟩:=Bc.get (i:=i) (x:=x) t cV_;exact⟨u,ig!,L⟩
def Bc.set{x:V}{u:x5!}(r:Bu x u):∀{xs:n_} {us:i_} (i:Nat),Bc xs us->Bc (xs.set i x) (us.set i u)
 |_,_,_,.nil=>.nil
 |_,_,0,.cons _ t=>.cons r t
 |_,_,i+1,.cons q t=>.cons q (Bc.set r i t)
def Bc.append:∀{xs ys:n_} {us ws:i_},Bc xs us->Bc ys ws->Bc eK_ (us++ws)
 |_,_,_,_,.nil,s=>s
 |_,_,_,_,.cons r t,s=>.cons r (Bc.append t s)
def Bc.take:∀{xs:n_} {us:i_} (n:Nat),Bc xs us->Bc (xs.take n) (us.take n)
 |_,_,0,_=>.nil
 |_,_,_+1,.nil=>.nil
 |_,_,n+1,.cons r t=>.cons r (Bc.take n t)
def Bc.drop:∀{xs:n_} {us:i_} (n:Nat),Bc xs us->Bc (xs.drop n) (us.drop n)
 |_,_,0,r=>r
 |_,_,_+1,.nil=>.nil
 |_,_,n+1,.cons _ t=>Bc.drop n t
def Ou:Option V->Option Value->Prop
 |some v,some u=>Bu v u
 |none,none=>True
 |_,_=>False
def KV{κ:Type}:List (κ×V)->List lP_->Prop:=Paired λ(p:κ×V) (q:κ×Value)=>p.1=q.1/\Bu p.2 q.2
nonrec def kV:Key->V
 |.inl i=>.int i
 |.inr x=>.str x
inductive HO where
 |lst (xs:n_)
 |tup (xs:n_)
 |dK (kvs:List (Key×V))|dT (kvs:ih_)
 |set (S:Int->Bool) (n:Nat)
 |ins (C dx:x7!) (fs:eL!)
 |own (x:x7!)
 |xd (fs:eL!)
 |met (f x:x7!)
 |rng (lo hi:Int)
 |frz (o:Obj) (u:HO)
 |tbl (ps:af!)
 |ext (φ:Heap->Prop)
abbrev Hp:=Addr->Option HO
nonrec def upd(H:Hp)(a:x7!)(o:HO):Hp:=λb=>if b=a then some o else H b
def cC{H:Hp}{a:x7!}{o:HO}:upd H a o a=some o:=by unfold upd;rw[k_]
def bD{H:Hp}{a b:x7!}{o:HO}(h:b≠a):upd H a o b=H b:=by unfold upd;rw[HP h]
def cN{H:Hp}{a b:x7!}{o:HO}(h:H a=some o)(h':H b=none):a≠b:=by intro e;subst e;rw[h]at h';cases h'
section
variable(P:yp!)(w:xV!)
def Fg(H:Hp)(h:Heap)(a:x7!):HO->Prop
 |.lst xs=>m_<=sizeLine/\∃(its:i_) (n:Nat),Bc xs its/\h.get? a=some {cls:=.type "list",data:=.seq its.toArray n}
 |.tup xs=>m_<=sizeLine/\∃its:List Value,Bc xs its/\IsTup h a bg_
 |.dK kvs=>aE_<=sizeLine/\dH!=false/\∃vs,KV kvs vs/\h.DictOf bu! a vs
 |.dT kvs=>aE_<=sizeLine/\dH!=false/\∃xs:List lQ!,
   Paired (λ(p:List Key×V) (q:List Key×Addr×Value)=>p.1=q.1/\H q.2.1=some q1_/\Bu p.2 q.2.2) kvs xs/\
   ∃o es ep,h.get? a=some o/\ii!/\o.data=.dict es ep/\es.toList=xs.map (entryOfKey f5_)/\(xs.map c_).Nodup
 |.set S n=>h.SetOf (intKind P w) a S n
 |.ins C dx fs=>H dx=some f6!/\bu_<=1000/\dx≠a/\h.get? a=some lR_/\
   ∃mA,h.Ns1 dx mA/\q3_/\PySem.Within mA lS_
 |.own _=>∃o,h.get? a=some o
 |.xd fs=>∃mA,h.Ns1 a mA/\∀f,Ou (fs.lookup f) (mA f)
 |.rng lo hi=>∃t u v,h.get? a=some {cls:=.type "range",data:=.fields #[.int lo t,.int hi u,.int 1 v]}
 |.frz o u=>h.get? a=some o/\Fg H h a u
 |.tbl ps=>h.get? a=some {cls:=.none,data:=.fields ps}
 |.met f x=>h.get? a=some (W.methodObj aj_ f6_)
 |.ext φ=>φ h/\(∃o,h.get? a=some o)/\∀Y L:Heap,φ Y->(∀o,Y.get? a=some o->L.get? a=some o)->φ L
def Ov(H:Hp)(h:Heap):Prop:=∀a o,H a=some o->Fg P w H h a o
end
section
variable{P:yp!}{w:xV!}{H H':Hp}{h h':Heap}{a:x7!}{o:HO}
def Fg.lt(x:q5!):a<cW_:=by
 cases o with
 |lst xs=>obtain⟨_,_,_,_,e⟩:=x;exact IQ e
 |tup xs=>obtain⟨_,_,_,p⟩:=x;exact p.lt
 |dK kvs=>obtain⟨_,_,_,_,o,_,_,e,_⟩:=x;exact IQ e
 |dT kvs=>obtain⟨_,_,_,_,o,_,_,e,_⟩:=x;exact IQ e
 |set S n=>obtain⟨o,_,_,_,e,_⟩:=x;exact IQ e
 |ins C dx fs=>obtain⟨_,_,_,e,_⟩:=x;exact IQ e
 |own y=>obtain⟨_,e⟩:=x;exact IQ e
 |xd fs=>obtain⟨_,⟨_,_,_,e,_⟩,_⟩:=x;exact IQ e
 |rng lo hi=>obtain⟨_,_,_,e⟩:=x;exact IQ e
 |frz ob u=>obtain⟨e,_⟩:=x;exact IQ e
 |tbl ps=>exact IQ q5_
 |met f y=>exact IQ q5_
 |ext φ=>obtain⟨_,⟨_,e⟩,_⟩:=x;exact IQ e
def Paired.mapP{α β:Type}{F G:cX!}:∀{l₁:P_} {l₂:dH_},Paired F l₁ l₂->(∀a b,F a b->G a b)->Paired G l₁ l₂
 |_,_,.nil,_=>.nil
 |_,_,.cons r t,f=>.cons (f _ _ r) (Paired.mapP t f)
def Fg.stay(x:q5!)(k:∀b u,(b=a\/H b=some f6!)->h.get? b=some u->h'.get? b=some u)
  (ho:∀b,H b=some f6!->H' b=some f6!)(ht:q6_):Fg P w H' h' a o:=by
 induction o with
 |lst xs=>obtain⟨z,its,n,r,e⟩:=x;exact⟨z,its,n,r,bI_⟩
 |tup xs=>obtain⟨z,its,r,ob,e,c⟩:=x;exact⟨z,its,r,ob,bI_,c⟩
 |dK kvs=>obtain⟨z,y,vs,r,ob,es,ep,e,c⟩:=x;exact⟨z,y,vs,r,ob,es,ep,bI_,c⟩
 |dT kvs=>
  obtain⟨z,y,xs,r,ob,es,ep,e,c⟩:=x;exact⟨z,y,xs,Paired.mapP r λp q z=>⟨z.1,ht _ _ z.2.1,z.2.2⟩,ob,es,ep,bI_,c⟩
 |set S n=>obtain⟨ob,es,ep,t,e,c⟩:=x;exact⟨ob,es,ep,t,bI_,c⟩
 |ins C dx fs=>
  obtain⟨d,z,ne,e,mA,⟨od,es,ep,e2,c⟩,r⟩:=x;exact⟨ho _ d,z,ne,bI_,mA,⟨od,es,ep,k _ _ (.inr d) e2,c⟩,r⟩
 |own y=>obtain⟨ob,e⟩:=x;exact⟨ob,bI_⟩
 |xd fs=>obtain⟨mA,⟨od,es,ep,e,c⟩,r⟩:=x;exact⟨mA,⟨od,es,ep,bI_,c⟩,r⟩
 |rng lo hi=>obtain⟨t,u,v,e⟩:=x;exact⟨t,u,v,bI_⟩
 |frz ob u ih=>obtain⟨e,q⟩:=x;exact⟨bI_,ih q⟩
 |tbl ps=>
  have e:h.get? a=some {cls:=.none,data:=.fields ps}:=x;show h'.get? a=some {cls:=.none,data:=.fields ps};exact k a _ G! e
 |met f y=>
  have e:h.get? a=some q9!:=x;show h'.get? a=some q9!;exact k a _ G! e
 |ext φ=>obtain⟨p,⟨o,e⟩,st⟩:=x;exact⟨st _ _ p λo q=>k _ _ G! q,⟨o,bI_⟩,st⟩
def Ov.lt(x:bv!)(e:H a=some o):a<cW_:=(x a o e).lt
def Ov.fresh(x:bv!)(e:cW_<=a):H a=none:=by
 cases q:H a with
 |none=>rfl
 |some u=>exact absurd (IT (x.lt q) e) dI!
def Ov.kept(x:bv!)(k:ij!):Ov P w H h':=λa o e=>
 (x a o e).stay (λb u _ q=>k b u q) lU_ λ_ _ q=>q
def Ov.laid(x:bv!)(k:ij!)(hp:cW_<=a)(new:Fg P w cX_ h' a o):Ov P w cX_ h':=λb u e=>by
 have hn:=x.fresh hp;show"#9"
 .show"!y";exact new
 .rw[bD hb]at e;exact(x b u e).stay (λc v _ q=>k c v q) (λc q=>by rw[f8!];exact q) λc xs q=>by rw[f8!];exact q
end
def Rd(H:Hp)(a:x7!)(u:HO):Prop:=H a=some u\/∃o,H a=some f8_
def Rd.ok{P:yp!}{w:xV!}{H:Hp}{h:Heap}{a:x7!}{u:HO}(r:Rd H a u)(x:bv!):Fg P w H h a u:=by
 obtain r|⟨o,r⟩:=r
 .exact x a u r
 .obtain⟨_,q⟩:=x a _ r;exact q
def CU:Option HO->Prop
 |some (.lst _)=>True
 |some (.dK _)=>True
 |some (.dT _)=>True
 |some (.set _ _)=>True
 |some (.ins _ _ _)=>True
 |some (.ext _)=>True
 |_=>False
section
variable{P:yp!}{w:xV!}{H:Hp}{h h':Heap}{x e:x7!}{o':HO}
def Ov.write(ok:bv!)(mu:CU (H x))(he:lW!)(k:q9_)(px:lW_)
  (new:Fg P w (upd H x o') h' x o'):Ov P w (upd H x o') h':=λb u q=>by
 have UD:∀c y,H c=some (.own y)->c≠x:=λc y r z=>by subst z;rw[r]at mu;exact mu
 have YH:∀c xs,H c=some bI!->c≠x:=λc xs r z=>by subst z;rw[r]at mu;exact mu
 by_cases hb:b=x
 .subst hb;rw[cC]at q;cases q;exact new
 .rw[bD hb]at q;by_cases mz:b=e
  .have q':H b=some ij_:=by
    obtain z|z:=he
    .exact absurd (mz.trans z) hb
    .rw[mz];exact z
   rw[q]at q';cases q';obtain⟨v,hv⟩:=px;exact⟨v,by rw[mz];exact hv⟩
  .refine(ok b u q).stay (λc v hc r=>k c v ?_ r) (λc r=>by rw[bD (UD c b r)];exact r) λc xs r=>by rw[bD (YH c xs r)];exact r
   obtain rfl|hc:=hc
   .exact mz
   .rintro rfl;obtain z|z:=he
    .exact UD c b hc z
    .rw[hc]at z;cases z;exact hb rfl
end
structure Un(fs ex:aw_)(H H':Hp)(h h':Heap):Prop where
 keep:∀b o,h.get? b=some o->H b=none->b∉fs->b∉ex->h'.get? b=some o
 slot:∀b o,h.get? b=some o->H b=none->b∈fs->b∉ex->∃sl,h'.get? b=some {o with slots:=sl}
 free:∀b o,h.get? b=some o->H b=none->b∉ex->H' b=none
 there:∀b o,h.get? b=some o->b∉ex->∃o',h'.get? b=some o'
 tups:∀b xs,H b=some bI!->H' b=some bI!
 frzs:∀b o u,H b=some f8_->H' b=some f8_
 tbls:∀b ps,H b=some (.tbl ps)->∃pz,H' b=some ra!
section
variable{fs vw ex ex':List Addr}{H H1 H2:Hp}{h Y L h':Heap}{a x e:x7!}{o:HO}
def Un.any(u:Un fs ex H H1 h Y){b:x7!}(q:h.get? b=some ob)(n:H b=none)(J:b∉ex):∃sl,Y.get? b=some {ob with slots:=sl}:=by
 by_cases hb:b∈fs
 .exact u.slot b ob q n hb J
 .exact⟨ob.slots,u.keep b ob q n hb J⟩
def Un.kept(k:ij!):Un fs ex H H h h':=
 ⟨λb ob q _ _ _=>k b ob q,λb ob q _ _ _=>⟨ob.slots,k b ob q⟩,λ_ _ _ n _=>n,λb ob q _=>⟨ob,k b ob q⟩,λ_ _ q=>q,λ_ _ _ q=>q,λ_ ps q=>⟨#[],by rw[q];simp⟩⟩
def Un.refl:Un fs ex H H h h:=Un.kept λ_ _ q=>q
def Un.laid(k:ij!)(hp:cW_<=a)(hn:ik_):Un fs ex H cX_ h h' where
 keep:=λb u q _ _ _=>k b u q
 slot:=λb u q _ _ _=>⟨u.slots,k b u q⟩
 free:=λb u q n _=>by rw[bD (JG (IT (IQ q) hp))];exact n
 there:=λb u q _=>⟨u,k b u q⟩
 tups:=λb xs q=>by rw[f8!];exact q
 frzs:=λb u xs q=>by rw[f8!];exact q
 tbls:=λb ps q=>⟨#[],by rw[f8!,q];simp⟩
def Un.write(mu:CU (H x))(he:lW!)(k:q9_)(px:lW_):Un fs ex H lZ! h h':=by
 have J:∀b,H b=none->b≠x:=λb n z=>by subst z;rw[n]at mu;exact mu
 have hb:∀b,H b=none->b≠e:=λb n z=>by
  subst z;obtain r|r:=he
  .exact J b n r
  .rw[n]at r;cases r
 have hm:∀b u,H b=some u->¬CU (some u)->b≠x:=λb u q nm z=>by subst z;rw[q]at mu;exact nm mu
 refine⟨λb u q n _ _=>k b u (hb b n) q,λb u q n _ _=>⟨u.slots,k b u (hb b n) q⟩,λb u q n _=>by rw[bD (J b n)];exact n,λb u q _=>?_,
  λb xs q=>by rw[lZ_];exact q,λb u xs q=>by rw[lZ_];exact q,λb ps q=>⟨#[],by rw[lZ_,q];simp⟩⟩
 by_cases mz:b=e
 .subst mz;exact px
 .exact⟨u,k b u mz q⟩
end
def DH(h:Heap)(H:Hp):List Addr:=(rb_).filter λa=>(H a).isSome
def Te(h:Heap)(H:Hp):Heap:=W.hideAll h (DH h H)
def b7h(h:Heap)(H:Hp):(im!).objs.size=cW_:=W.hideAll_size _ _
def c2a{h:Heap}{H:Hp}{b:x7!}{o:Obj}(e:rc_)(n:H b=none):(im!).get? b=some o:=
 W.hideAll_get _ e λhm=>by
  have q:(H b).isSome=true:=(KQ.mp hm).2;rw[n]at q;simp at q
def c5h{h:Heap}{H:Hp}{b:x7!}{o:Obj}(e:(im!).get? b=some o):h.get? b=some o/\H b=none:=by
 have e':h.get? b=some o:=W.of_hideAll (DH h H) e;refine⟨e',?_⟩;cases q:H b with
 |none=>rfl
 |some x=>
  have hm:b∈DH h H:=KQ.mpr ⟨NT.mpr (IQ e'),by simp[q]⟩;have z:(im!).get? b=none:=W.hideAll_none (DH h H) hm;rw[z]at e;cases e
def Zb(g h:Heap)(az:x7!):List eL_:=(rb_).filterMap λa=>if a=az\/(g.get? a).isSome=true then none else(h.get? a).map λo=>(a,o)
nonrec def rest(g h:Heap)(az d:x7!):List eL_:=(Zb g h az).filter λp=>decide (p.1≠d)
end L2
namespace L2
open PySem PySem.Spec PyProof.Rows
structure Mod(K:yS!)(mg:z!)(base:Heap):Prop where
 kin:K.In base
 glob:base.Ns mainGlobals mg
 blt:∃mb,base.Ns builtinsNs mb/\∀x:Str,x≠"__name__"->mb x=bootBuiltins x
 nolimit:base.NoLimit
structure Cx where
 prog:Program
 w:World
 K:W.Frag
 mg:Str->Option Value
 base:Heap
 A:Around
 N:List Str
 s₀:Shared
 H₀:Hp
 env:Env
 outer:List Env
 stack:List Env
 ex:List Addr
 fn:Str->Bool
 calm:Bool
 pn:List eL_
 xe:Value->Shared->Prop
nonrec def frs(l:ax!):List Addr:=l.filterMap (·.frame)
abbrev Cx.fs(X:Cx):List Addr:=frs X.outer
def Wu(sc:Scope)(x:Str):Prop:=sc.names.lookup x=some .local\/sc.names.lookup x=some .cell\/sc.names.lookup x=some .free
def Wv(sc:Scope)(x:Str):Prop:=sc.names.lookup x=some .local\/sc.names.lookup x=some .cell
def FK(env:Env)(h:Heap)(m:z!)(x:Str)(u:x5!):Prop:=
 (env.kindOf x=some .local/\m x=some u)\/((env.kindOf x=some .cell\/env.kindOf x=some .free)/\∃c,env.cells.lookup x=some c/\h.IsCell c (some u))
structure Cx.Ok(X:Cx):Prop where
 mod:Mod X.K X.mg X.base
 kind:l1!=.function
 glob:X.env.globals=mainGlobals
 blt:X.env.builtins=builtinsNs
 above:dI_<=X.env.locals
 inj:∀x y c,X.env.cells.lookup x=some c->X.env.cells.lookup y=some c->x=y
 has:∀x,rh_->∃c,X.env.cells.lookup x=some c
 cab:∀x c,X.fn x=true->X.env.cells.lookup x=some c->dI_<=c
 hd:X.calm=true->X.A.handled=none
 frames:X.A.frames=some X.stack
 stk:X.stack=X.outer\/(X.stack=X.env::X.outer/\X.env.frame=some X.env.locals)
 exf:∀b∈X.ex,b≠X.env.locals/\∀x c,X.env.cells.lookup x=some c->c≠b
 bs:∀b o,X.base.get? b=some o->X.s₀.heap.get? b=some o/\X.H₀ b=none
 bsz:X.base.objs.size<=dI_
 noex:∀b o,X.base.get? b=some o->b∉X.ex
 exfs:∀b∈X.ex,b∉X.fs
 funs:X.s₀.heap.FunFrames X.base X.outer
 frf:∀b∈X.fs,X.H₀ b=none
structure Inv(X:Cx)(h1:o!)(Z:List (Option V))(H:Hp)(s:yR!):Prop where
 ok:X.Ok
 os:s.os=X.s₀.os
 bare:AllBare s.gens
 base:Un X.fs X.ex X.H₀ H X.s₀.heap s.heap
 loc:∃m,s.heap.Ns X.env.locals m/\∀(i:Nat) (x:Str) (v:V),X.N[i]?=some x->Z[i]?=some dJ!->Wu X.env.scope x->∃u,Bu v u/\FK X.env s.heap m x u
 cell:∀x c,X.env.cells.lookup x=some c->∃v,s.heap.IsCell c v
 free:H X.env.locals=none
 freeC:∀x c,X.env.cells.lookup x=some c->H c=none
 pin:∀p∈X.pn++h1,s.heap.get? p.1=some p.2/\H p.1=none/\p.1≠X.env.locals/\p.1∉X.fs/\∀v,p.2.data≠.cell v
 hok:Ov X.prog X.w H s.heap
 len:f9!=X.N.length
section
variable{X:Cx}{h1:List (Addr×Obj)}{Z:List (Option V)}{H H':Hp}{s:yR!}{h':Heap}
def Cx.Ok.nofr(ok:X.Ok){b:x7!}{o:Obj}(e:X.base.get? b=some o):b∉X.fs:=λhb=>by
 have:=(ok.funs.mem hb).1;rw[e]at this;cases this
def Inv.bs(I:d_):∀b o,X.base.get? b=some o->s.heap.get? b=some o/\H b=none:=λb o e=>
 ⟨I.base.keep b o (im_).1 (im_).2 (I.ok.nofr e) ri_,I.base.free b o (im_).1 (im_).2 ri_⟩
def Inv.bk(I:d_):∀b o,X.base.get? b=some o->s.heap.get? b=some o:=λb o e=>(I.bs b o e).1
def Inv.mod(I:d_):Mod X.K X.mg X.base:=I.ok.mod
def Inv.kIn(I:d_):X.K.In s.heap:=I.ok.mod.kin.keeps I.bk
def Inv.lt(I:d_):X.env.locals<o_:=let⟨_,hn,_⟩:=I.loc;hn.lt
def Inv.sz(I:d_):dI_<=o_:=JB I.ok.above (MX I.lt)
def Inv.nofs(I:d_){a:x7!}(h:o_<=a):a∉X.fs:=λhb=>by
 obtain⟨_,o,ho,_⟩:=I.ok.funs.mem hb;exact absurd (IT in! (JB I.sz h)) dI!
def Inv.cne(I:d_):∀x c,X.env.cells.lookup x=some c->c≠X.env.locals:=λx c e z=>by
 obtain⟨v,o,ho,hd⟩:=I.cell x c e;obtain⟨m,⟨o',es,ep,fh,j3,_⟩,_⟩:=I.loc;rw[z,fh]at ho;cases ho;rw[j3]at hd;cases hd
def Inv.funs(I:d_):s.heap.FunFrames X.base X.outer:=by
 have all:∀(l:ax!),(∀b∈frs l,b∈X.fs)->X.s₀.heap.FunFrames X.base l->s.heap.FunFrames X.base l:=by
  intro l
  induction l with
  |nil=>intro _ _;trivial
  |cons env r ih=>
   intro hs hl;obtain⟨hk,⟨az,o,hf,hn,ho,hd⟩,hr⟩:=hl;have hL:az∈X.fs:=hs az (by unfold frs;rw[QW,hf];exact HQ);obtain⟨sl,e⟩:=I.base.slot az o ho (I.ok.frf az hL) hL λz=>I.ok.exfs az z hL
   exact⟨hk,⟨az,_,hf,hn,e,hd⟩,ih (λb hb=>hs b (by unfold frs;rw[QW,hf];exact HL _ hb)) hr⟩
 exact all X.outer (λ_ hb=>hb) I.ok.funs
def Inv.stack(I:d_):s.heap.FunFrames X.base X.stack:=by
 obtain e|⟨e,hf⟩:=I.ok.stk
 .rw[e];exact I.funs
 .rw[e];obtain⟨m,hn,_⟩:=I.loc;refine .cons (by rw[I.ok.kind];decide) hf hn ?_ I.funs;exact Heap.get?_none_of_le (JB I.ok.bsz I.ok.above)
def Inv.stkSub(I:d_):∀b∈frs X.stack,b∈X.env.locals::X.fs:=λb hb=>by
 obtain e|⟨e,hf⟩:=I.ok.stk
 .rw[e]at hb;exact HL _ hb
 .rw[e]at hb;unfold frs at hb;rw[QW,hf]at hb;exact hb
def Inv.stkFree(I:d_):∀b∈frs X.stack,H b=none:=λb hb=>by
 obtain e|hb:=HN.mp (I.stkSub b hb)
 .rw[e];exact I.free
 .obtain⟨_,o,ho,_⟩:=I.ok.funs.mem hb;exact I.base.free b o ho (I.ok.frf b hb) λz=>I.ok.exfs b z hb
def Inv.step{g':rn!}{t':Nat}{d':Drawn}{ch:aw_}(I:d_)
  (jg:∀b∈ch,io!/\b≠X.env.locals/\io_/\∀p∈X.pn++h1,p.1≠b)
  (keep:∀b o,b≠X.env.locals->b∉X.fs->b∉ch->s.heap.get? b=some o->H b=none->h'.get? b=some o)
  (slot:∀b o,b≠X.env.locals->b∈X.fs->b∉ch->s.heap.get? b=some o->H b=none->∃sl,h'.get? b=some {o with slots:=sl})(free:∀b o,b∉ch->s.heap.get? b=some o->H b=none->H' b=none)
  (there:∀b o,b∉ch->s.heap.get? b=some o->∃o',h'.get? b=some o')
  (tups:q6_)(frzs:∀b o u,H b=some f8_->H' b=some f8_)(tbls:∀b ps,H b=some (.tbl ps)->∃pz,H' b=some ra!)
  (ns:∀m,s.heap.Ns X.env.locals m->h'.Ns X.env.locals m)(hok:l3!)(hg:AllBare g'):
  Inv X h1 Z H' {s with heap:=h',gens:=g',drawn:=d',toks:=t'}:=by
 have UE:∀b o,X.s₀.heap.get? b=some o->b≠X.env.locals:=λb o e=>JG rn_;have vx:∀b o,X.s₀.heap.get? b=some o->b∉X.ex->b∉ch:=λb o e J hb=>by
  obtain z|z:=(jg b hb).1
  .exact J z
  .exact absurd (IT cY! z) dI!
 have UF:∀x c,X.env.cells.lookup x=some c->∀v,s.heap.IsCell c v->h'.IsCell c v:=λx c e v ⟨o,ho,hd⟩=>by
  have sk:c∉ch:=λz=>(jg c z).2.2.1 x c e rfl;by_cases hc:c∈X.fs
  .obtain⟨sl,q⟩:=slot c o (I.cne x c e) hc sk ho l4!;exact⟨_,q,hd⟩
  .exact⟨o,keep c o (I.cne x c e) hc sk ho l4!,hd⟩
 refine⟨I.ok,I.os,hg,⟨ip_,ip_,λb o e n J=>?_,ro_,λb xs e=>tups b xs (I.base.tups b xs e),λb o xs e=>frzs b o xs (I.base.frzs b o xs e),λb ps e=>?_⟩,?_,l4_,?_,l4_,eM!,hok,I.len⟩
 .exact keep b o (UE b o e) hb iq! l5! l5_
 .show"!W";obtain⟨YI,e2⟩:=slot b _ (UE b o e) hb iq! e1 l5_;exact⟨YI,e2⟩
 .show"!B";exact free b o' iq! e1 l5_
 .show"!B";exact there b o' iq! e1
 .obtain⟨m1,e1⟩:=I.base.tbls b ps e;obtain⟨m2,e2⟩:=tbls b _ e1;exact⟨m1++m2,by rw[e2,Array.append_assoc]⟩
 .obtain⟨m,hn,hl⟩:=I.loc;refine⟨m,ns m hn,rp_⟩;obtain⟨u,r,l⟩:=hl i x v e1 e2 e3;refine⟨u,r,?_⟩;obtain l|⟨k,c,e,z⟩:=l
  .exact .inl l
  .exact .inr ⟨k,c,e,UF x c e _ z⟩
 .obtain⟨v,z⟩:=I.cell x c e;exact⟨v,UF x c e v z⟩
 .obtain⟨m,⟨o,_,_,ho,_⟩,_⟩:=I.loc;exact free _ o (λz=>(jg _ z).2.1 rfl) ho I.free
 .obtain⟨v,o,ho,hd⟩:=I.cell x c e;exact free c o (λz=>(jg c z).2.2.1 x c e rfl) ho l4!
 .show"!|";have sk:p.1∉ch:=λz=>(jg p.1 z).2.2.2 p hp rfl;exact⟨keep p.1 p.2 ne nf sk e n,free p.1 p.2 sk e n,ne,nf,d⟩
def Inv.un{t':Nat}(I:d_)(u:Un X.fs [] H H' s.heap h')(hok:l3!):Inv X h1 Z H' {s with heap:=h',toks:=t'}:=by
 obtain⟨m,⟨o,es,ep,ho,r⟩,_⟩:=id I.loc;obtain⟨sl,hL⟩:=u.any ho I.free d!;exact I.step (g':=s.gens) (d':=s.drawn) (ch:=[]) rq_ (λb o _ hb _ e n=>u.keep b o e n hb d!) (λb o _ hb _ e n=>u.slot b o e n hb d!) (λb o _ e n=>u.free b o e n d!) (λb o _ e=>u.there b o e d!) u.tups u.frzs u.tbls (λm' hm=>by
  obtain⟨o',ay,bd,fh,r'⟩:=hm;rw[ho]at fh;cases fh;exact rr!) hok I.bare
def Inv.call{g':rn!}{t':Nat}{d':Drawn}{ch:aw_}(I:d_)(u:Un (frs X.stack) ch H H' s.heap h')(hok:l3!)(hg:AllBare g')
  (jg:∀b∈ch,io!/\b≠X.env.locals/\io_/\∀p∈X.pn++h1,p.1≠b):
  Inv X h1 Z H' {s with heap:=h',gens:=g',drawn:=d',toks:=t'}:=by
 obtain⟨m,⟨o,es,ep,ho,r⟩,_⟩:=id I.loc;obtain⟨sl,hL⟩:=u.any ho I.free λz=>(jg _ z).2.1 rfl
 exact I.step (ch:=ch) jg (λb o hL hb hc e n=>u.keep b o e n (λz=>(HN.mp (I.stkSub b z)).elim hL hb) hc) (λb o _ _ hc e n=>u.any e n hc) (λb o hc e n=>u.free b o e n hc) (λb o hc e=>u.there b o e hc) u.tups u.frzs u.tbls (λm' hm=>by
  obtain⟨o',ay,bd,fh,r'⟩:=hm;rw[ho]at fh;cases fh;exact rr!) hok hg
def Inv.turned{t':Nat}(I:d_)(k:∀b o,b≠it->s.heap.get? b=some o->h'.get? b=some o)(hn:H it=none)(hL:it≠X.env.locals)
  (Y:it∈X.ex\/dI_<=it)(L:∀x c,X.env.cells.lookup x=some c->c≠it)(h3:∀p∈X.pn++h1,p.1≠it):Inv X h1 Z H {s with heap:=h',toks:=t'}:=by
 have p5:∀b u,H b=some u->b≠it:=λb u e z=>by rw[z,hn]at e;cases e
 refine I.step (g':=s.gens) (d':=s.drawn) (ch:=[it]) ir! (λb o _ _ hc e _=>k b o l6! e) (λb o _ _ hc e _=>⟨o.slots,k b o l6! e⟩) ir_
  (λb o hc e=>⟨o,k b o l6! e⟩) is! is_ (λb ps e=>rs!) it_ rt! I.bare
 .have e:b=it:=by simpa using hb
  subst e;exact⟨Y,hL,L,h3⟩
 .obtain⟨o,es,ep,ho,r⟩:=hm;exact⟨o,es,ep,k _ o (HR hL) ho,r⟩
 .refine(I.hok b u e).stay (λc v hc q=>k c v ?_ q) lU_ λ_ _ q=>q;obtain z|z:=hc
  .rw[z];exact p5 b u e
  .exact p5 c _ z
def Inv.tok(I:d_)(t:Nat):Inv X h1 Z H {s with toks:=t}:=I.un (h':=s.heap) (t':=t) Un.refl I.hok
def Inv.kept{t':Nat}(I:d_)(k:rt_):Inv X h1 Z H {s with heap:=h',toks:=t'}:=I.un (Un.kept k) (I.hok.kept k)
def Inv.laid{a:x7!}{o:HO}{t':Nat}(I:d_)(k:rt_)(hp:o_<=a)(new:Fg X.prog X.w cX_ h' a o):
  Inv X h1 Z cX_ {s with heap:=h',toks:=t'}:=I.un (Un.laid k hp (I.hok.fresh hp)) (I.hok.laid k hp new)
def Inv.write{x e:x7!}{o:HO}{t':Nat}(I:d_)(mu:CU (H x))(he:lW!)(k:∀b u,b≠e->s.heap.get? b=some u->h'.get? b=some u)(px:lW_)
  (new:Fg X.prog X.w lZ! h' x o):Inv X h1 Z lZ! {s with heap:=h',toks:=t'}:=I.un (Un.write mu he k px) (I.hok.write mu he k px new)
def Inv.pins_of{UG:o!}(I:d_)(h:∀p∈UG,s.heap.get? p.1=some p.2/\H p.1=none/\p.1≠X.env.locals/\p.1∉X.fs/\∀v,p.2.data≠.cell v):Inv X UG Z H s:=
 ⟨I.ok,I.os,I.bare,I.base,I.loc,I.cell,I.free,I.freeC,λp hp=>(HX.mp hp).elim (λz=>I.pin p (IS _ z)) (h p),I.hok,I.len⟩
def a7n{N:q!}(hN:N.Nodup){i j:Nat}{x:Str}(a:N[i]?=some x)(b:N[j]?=some x):i=j:=by obtain⟨Y,e1⟩:=IL.mp a;obtain⟨L,e2⟩:=IL.mp b;exact(List.getElem_inj hN).mp uI_
def a0c{M:Model}{A:x6!}{E:q_}{i:Nat}{x:Str}{v:V}{u:x5!}{Q:cZ!}(I:d_)(hN:bv_)(hi:ak_)(J:bw!)(r:bw_)
  (h:∀s',Inv X h1 eN! H s'->(∃a,Heap.SameBut a s.heap s'.heap/\(a=X.env.locals\/X.env.cells.lookup x=some a))->Q () s')(hf:X.fn x=true\/X.env.scope.names.lookup x=some .local:=by first|exact .inl rfl|exact .inr rfl|assumption):wpAny M A rw! Q E s:=by
 obtain⟨m,hn,hl⟩:=id I.loc;have YJ:(l1!==.class||(l1!==.module&&X.env.locals != X.env.globals))=false:=by rw[I.ok.kind];rfl
 have UH:i<f9!:=by rw[I.len];exact(IL.mp hi).1
 have cne:=I.cne;have UI:∀{a:x7!} {h':Heap},(∃o,s.heap.get? a=some o/\H a=none)->Heap.SameBut a s.heap h'->Ov X.prog X.w H h':=λ{a h'} ha hs b ob e=>by
  obtain⟨_,_,io⟩:=ha;refine(I.hok b ob e).stay (λc w' hc q=>(hs.2 c ?_).trans q) lU_ λ_ _ q=>q;rintro rfl;obtain rfl|hc:=hc
  .rw[io]at e;cases e
  .rw[io]at hc;cases hc
 obtain hk|hk:=J
 .refine wpAny_storeName_local hk hn (λh' m7 hs=>?_) YJ;obtain⟨oL,_,_,lh,_⟩:=id hn;refine h _ ⟨I.ok,I.os,I.bare,ry!,⟨_,m7,rz!⟩,λy c e=>?_,I.free,I.freeC,eM!,UI ⟨oL,lh,I.free⟩ hs,rA!⟩ ⟨_,hs,c0!⟩
  .exact(l9_).trans l5!
  .show"!W";exact⟨sl,(l9_).trans e1⟩
  .show"!B";exact⟨o',(l9_).trans e1⟩
  .by_cases hj:j=i
   .show"#-";exact⟨u,r,.inl ⟨hk,H!⟩⟩
   .rw[JE (HR hj)]at e2;obtain⟨u',r',q⟩:=hl j y v' e1 e2 e3;refine rC!;obtain⟨k,e⟩|⟨k,c,e,z⟩:=q
    .refine .inl ⟨k,?_⟩;have:y≠x:=λe=>hj (a7n hN e1 (e▸hi));simp[this,e]
    .exact .inr ⟨k,c,e,rD!⟩
  .obtain⟨w',z⟩:=I.cell y c e;exact⟨w',rD!⟩
  .show"!|";exact⟨(hs.2 p.1 ne).trans e,n,ne,nf,d⟩
 .have ym:X.fn x=true:=by
   obtain z|z:=hf
   .exact z
   .rw[z]at hk;cases hk
  obtain⟨c,hc⟩:=I.ok.has x (.inl hk);obtain⟨w',z⟩:=I.cell x c hc;refine wpAny_storeName_cell I.ok.kind hk hc z (λh' bv hs=>?_);obtain⟨oc,j4,YK⟩:=id z;refine h {s with heap:=h'} ⟨I.ok,I.os,I.bare,ry!,⟨m,hn.sameBut hs (HR (cne x c hc)),rz!⟩,λy c' e=>?_,I.free,I.freeC,eM!,UI ⟨oc,j4,I.freeC x c hc⟩ hs,rA!⟩ ⟨c,hs,.inr hc⟩
  .exact(mc!).trans l5!
  .show"!W";exact⟨sl,(mc!).trans e1⟩
  .show"!B";exact⟨o',(mc!).trans e1⟩
  .by_cases hj:j=i
   .show"#-";exact⟨u,r,.inr ⟨.inl hk,c,hc,bv⟩⟩
   .rw[JE (HR hj)]at e2;obtain⟨u',r',q⟩:=hl j y v' e1 e2 e3;refine rC!;obtain q|⟨k,c',e,z'⟩:=q
    .exact .inl q
    .refine .inr ⟨k,c',e,z'.sameBut hs ?_⟩;rintro rfl;exact hj (a7n hN e1 (I.ok.inj _ _ _ e hc▸hi))
  .by_cases j5:c'=c
   .subst j5;exact⟨_,bv⟩
   .obtain⟨w2,z2⟩:=I.cell y c' e;exact⟨w2,z2.sameBut hs j5⟩
  .show"!|";refine⟨(hs.2 p.1 ?_).trans e,n,ne,nf,d⟩;intro q;rw[q,j4]at e;have q':oc=p.2:=JJ e;exact d w' (by rw[<-q'];exact YK)
def wO{M:Model}{A:x6!}{E:q_}{i:Nat}{x:Str}{v:V}{u:x5!}{Q:cZ!}(I:d_)(hN:bv_)(hi:ak_)(J:bw!)(r:bw_)
  (h:∀s',Inv X h1 eN! H s'->Q () s')(hf:X.fn x=true\/X.env.scope.names.lookup x=some .local:=by first|exact .inl rfl|exact .inr rfl|assumption):wpAny M A rw! Q E s:=
 a0c I hN hi J r (λs' I' _=>h s' I') hf
def Inv.call'{s':yR!}{ch:aw_}(I:d_)(ho:s'.os=s.os)(u:Un (frs X.stack) ch H H' s.heap s'.heap)(hok:Ov X.prog X.w H' s'.heap)(hg:AllBare s'.gens)
  (jg:∀b∈ch,io!/\b≠X.env.locals/\io_/\∀p∈X.pn++h1,p.1≠b):Inv X h1 Z H' s':=by
 obtain⟨h',g',d',t',o'⟩:=s';have e:o'=s.os:=ho;subst e;exact I.call (g':=g') (t':=t') (d':=d') u hok hg jg
end
abbrev XK:=Value->Option Addr->Hp->Prop
abbrev St:=List (Option V)
abbrev VK:=V->Hp->Prop
abbrev TE:=St->Hp->VK->Prop
abbrev TT:=St->Hp->rI_->Prop
abbrev TA:=St->Hp->(List V->Hp->Prop)->Prop
structure Vo where
 nx:St->Hp->Prop
 rt:VK
 bk:St->Hp->Prop:=λ_ _=>False
 ct:St->Hp->Prop:=λ_ _=>False
abbrev TS:=Vo->St->Hp->Prop
inductive EP(X:Cx)(h1:o!)(Z:St)(Q:VK)(u:x5!)(s':yR!):Prop
 |mk (v:V) (H':Hp) (I:md_) (r:bw_) (q:Q v H'):EP X h1 Z Q u s'
inductive TP(X:Cx)(h1:o!)(Z:St)(Q:dK_)(b:Bool)(s':yR!):Prop
 |mk (H':Hp) (I:md_) (q:Q b H'):TP X h1 Z Q b s'
inductive AP(X:Cx)(h1:o!)(Z:St)(Q:c0_)(us:i_)(s':yR!):Prop
 |mk (vs:n_) (H':Hp) (I:md_) (r:eO!) (q:Q vs H'):AP X h1 Z Q us s'
def SP(X:Cx)(h1:o!)(D:Vo)(f:Flow)(s':yR!):Prop:=
 match f with
 |.next=>∃σ H',Inv X h1 σ H' s'/\D.nx σ H'
 |.brk=>∃σ H',Inv X h1 σ H' s'/\D.bk σ H'
 |.cont=>∃σ H',Inv X h1 σ H' s'/\D.ct σ H'
 |.ret u=>∃v σ H',Inv X h1 σ H' s'/\Bu v u/\D.rt v H'
def PE(X:Cx)(e:Expr)(t:TE):Prop:=
 ∀(h1:o!) (s:yR!) (Z:St) (H:Hp) (Q:VK),Inv X h1 Z H s->t Z H Q->wpAny e_ X.A eO_ aM! X.xe s
def PT(X:Cx)(e:Expr)(t:TT):Prop:=
 ∀(h1:o!) (s:yR!) (Z:St) (H:Hp) (Q:dK_),Inv X h1 Z H s->t Z H Q->wpAny e_ X.A (isTrue e X.env eO_) iv_ X.xe s
def PW(X:Cx)(e:Expr)(t:TT):Prop:=
 ∀(du:Sem Value) (h1:o!) (s:yR!) (Z:St) (H:Hp) (Q:dK_),Inv X h1 Z H s->t Z H Q->wpAny e_ X.A (isTrue e X.env du) iv_ X.xe s
def PW.pt{X:Cx}{e:Expr}{t:TT}(h:PW X e t):PT X e t:=h _
def PA(X:Cx)(es:bK!)(t:TA):Prop:=
 ∀(pos:Pos) (h1:o!) (s:yR!) (Z:St) (H:Hp) (Q:c0_),Inv X h1 Z H s->t Z H Q->wpAny e_ X.A (spliced vJ!) (AP X h1 Z Q) X.xe s
def PS(X:Cx)(st:Stmt)(t:TS):Prop:=
 ∀(h1:o!) (s:yR!) (Z:St) (H:Hp) (D:Vo),Inv X h1 Z H s->t D Z H->wpAny e_ X.A (exec st X.env) (SP X h1 D) X.xe s
def Uq(X:Cx)(st:b1_)(t:TS):Prop:=
 ∀(h1:o!) (s:yR!) (Z:St) (H:Hp) (D:Vo),Inv X h1 Z H s->t D Z H->wpAny e_ X.A (execs st X.env) (SP X h1 D) X.xe s
def dM{α:Type}{t:Sem α}{Q Q':vP!}{M:Model}{A:x6!}{E:q_}{s:yR!}(h:wpAny M A t Q E s)(hQ:∀a s,Q a s->Q' a s):wpAny M A t Q' E s:=KL h hQ λ_ _ x=>x
end L2
namespace L2
open PySem PySem.Spec PyProof.Rows
section
variable{X:Cx}
def bin{a b:Expr}{ta tb:TE}(ha:a2_)(hb:cs!){h1:o!}{s:yR!}{Z:St}{H:Hp}{R:vQ_}(I:d_)(h:rL!)
  {α:Type}{Q:vP!}{f:Value->Value->Sem α}
  (hf:rL_):
  wpAny e_ X.A mg! rN! X.xe s:=by
 show"!8"
def BH(i:Nat):TE:=λZ H Q=>∃v,Z[i]?=some dJ!/\Q v H
nonrec def tC(v:V):TE:=λ_ H Q=>Q v H
def mH{i:Nat}{x:Str}{pos:Pos}(hN:ak_)(hv:cs_)(hd:F_:=by decide)(bz:ct!:=by decide):PE X ct_ (BH i):=by
 intro h1 s Z H Q I h;obtain⟨v,e,h⟩:=h;obtain⟨m,hn,hl⟩:=I.loc;obtain⟨u,r,l⟩:=hl i x v hN e hv;have fin:EP X h1 Z Q u s:=mh!;obtain⟨hk,hm⟩|⟨hk,c,hc,cg⟩:=l
 .exact wpAny_Name (wpAny_loadName_local I.ok.kind hk hn hm fin) hd
 .obtain hk|hk:=hk
  .exact wpAny_Name (wpAny_loadName_cell I.ok.kind hk hc cg fin) hd
  .exact wpAny_Name (wpAny_loadName_free I.ok.kind hk hc cg fin bz) hd
def c8w {i j pos}:PE X rP_ (tC bx!):=λ_ _ _ H _ I h=>wpAny_Constant_int ⟨cu!,H,a3!,L!,h⟩
def d2o {b j pos}:PE X (.Constant mk! j pos) (tC bK_):=λ_ _ _ H _ I h=>Constant_bool ⟨.bl b,H,I,rfl,h⟩
def c8v {j pos}:PE X rR! (tC .non):=λ_ _ _ H _ I h=>Constant_none ⟨.non,H,I,rfl,h⟩
def b9u {x j pos}:PE X (.Constant dL! j pos) (tC dL!):=λ_ _ _ H _ I h=>Calls.Constant_str ⟨.str x,H,a3!,L!,h⟩
def Gl(X:Cx)(x:Str):Prop:=X.env.kindOf x=some .globalImplicit
def kS{E:q_}{h1:o!}{s:yR!}{Z:St}{H:Hp}{x:Str}{u:x5!}{pos:Pos}{Q:q_}(I:d_)(hg:Y_)(hm:X.mg x=some u)(h:Q u s)
  (hd:F_:=by decide):wpAny e_ X.A v6_ Q E s:=
 Calls.Name_function_global I.ok.kind hg (Calls.loadGlobal_global rT! hm h) hd
def kU{E:q_}{h1:o!}{s:yR!}{Z:St}{H:Hp}{x:Str}{u:x5!}{pos:Pos}{Q:q_}(I:d_)(hg:Y_)(hm:c3_)(hv:rU_)(h:Q u s)
  (hn:c4!:=by decide)(hd:F_:=by decide):wpAny e_ X.A v6_ Q E s:=by
 obtain⟨mb,Y,L⟩:=I.mod.blt;exact Calls.Name_function_global I.ok.kind hg (Calls.loadGlobal_builtin rT! hm (by rw[I.ok.blt];exact Y.keeps I.bk) ((L x hn).trans hv) h) hd
def c4y{x:Str}{v:V}{u:x5!}{pos:Pos}(hg:Y_)(hm:X.mg x=some u)(r:bw_)(hd:F_:=by decide):PE X ct_ (tC v):=
 λ_ _ _ H _ I h=>kS I hg hm mh! hd
def c4z{x:Str}{v:V}{u:x5!}{pos:Pos}(hg:Y_)(hm:c3_)(hv:rU_)(r:bw_)(hn:c4!:=by decide)(hd:F_:=by decide):PE X ct_ (tC v):=
 λ_ _ _ H _ I h=>kU I hg hm hv mh! hn hd
variable{a b:Expr}{ta tb:TE}{pos:Pos}
def PC(X:Cx)(op:CmpOp)(a b:Expr)(t:TE):Prop:=
 ∀(h1:o!) (s:yR!) (Z:St) (H:Hp) (Q:VK),Inv X h1 Z H s->t Z H Q->
  wpAny e_ X.A mg! (λv al=>wpAny e_ X.A vT! (λu ao=>wpAny e_ X.A (compareOp op v u) aM! X.xe ao) X.xe al) X.xe s
def c0q(b:Expr){op:CmpOp}(h:op≠.In)(L:op≠.NotIn):behindInMarks op b=false:=by
 have e1:rV_=false:=by cases op<;>first|rfl|exact absurd rfl h
 have e2:rW!=false:=by cases op<;>first|rfl|exact absurd rfl L
 cases b<;>simp[behindInMarks,e1,e2]
nonrec def tB(t:TE):TT:=λZ H Q=>t Z H λx H1=>∃c,x=.bl c/\Q c H1
def d4i{op:CmpOp}{t:TE}(h:PC X op a b t)(Y:dL_:=by first|exact c0q _ b_ b_|rfl):PT X dM! (tB t):=by intro h1 s Z H Q I hw;refine QY (dM mn! λv s1 Y=>dM Y λu s2 L=>dM L λc s3 ⟨x,H1,I1,r1,q1⟩=>?_) Y;obtain⟨d,rfl,q⟩:=q1;cases r1;exact JN ⟨H1,I1,q⟩
def b9e{e:Expr}{t:TE}(h:ix_)(he:iy!:=by intro _;rfl):PT X e (tB t):=by intro h1 s Z H Q I hw;refine isTrue_plain (dM mn! λv s1 ⟨x,H1,I1,r1,q1⟩=>?_) (he _);obtain⟨d,rfl,q⟩:=q1;cases r1;exact JN ⟨H1,I1,q⟩
variable{tA vy:TT}{rest:List Expr}
def EN(t u:TT):TT:=λZ H Q=>t Z H λc H1=>if c=true then u Z H1 Q else Q false H1
def GS(t u:TT):TT:=λZ H Q=>t Z H λc H1=>if c=true then Q true H1 else u Z H1 Q
def EH(t:TT):TT:=λZ H Q=>t Z H λc H1=>Q (!c) H1
def b3n(ha:gi_):PW X mo! tA:=by
 intro wh h1 s Z H Q I h;refine isTrue_and rX_;cases c with
 |true=>exact isTrue_and_nil e
 |false=>exact e
def b8y(ha:gi_):PW X mo_ tA:=by
 intro wh h1 s Z H Q I h;refine isTrue_or rX_;cases c with
 |false=>exact isTrue_or_nil e
 |true=>exact e
def b8z(ha:gi_)(hb:PW X eQ! vy):PW X eQ_ (EN tA vy):=by
 intro wh h1 s Z H Q I h;refine isTrue_and rY!;cases c with
 |true=>exact hb wh h1 s1 Z H1 Q I1 q1
 |false=>exact rY_
def c7g(ha:gi_)(hb:PW X eR! vy):PW X eR_ (GS tA vy):=by
 intro wh h1 s Z H Q I h;refine isTrue_or rY!;cases c with
 |true=>exact rY_
 |false=>exact hb wh h1 s1 Z H1 Q I1 q1
def b9g(ha:gi_):PT X eS! (EH tA):=by intro h1 s Z H Q I h;exact isTrue_not (dM (ha h1 s Z H (λc H1=>Q (!c) H1) I h) λ_ _ ⟨H2,I2,q⟩=>⟨H2,I2,q⟩)
def BQ(ta tb:TE):TE:=λZ H Q=>ta Z H λx H1=>∃c,x=.bl c/\if c=true then tb Z H1 Q else Q Q! H1
def EG(ta tb:TE):TE:=λZ H Q=>ta Z H λx H1=>∃c,x=.bl c/\if c=true then Q z_ H1 else tb Z H1 Q
def BL(ta:TE):TE:=λZ H Q=>ta Z H λx H1=>∃c,x=.bl c/\Q (.bl (!c)) H1
def b9x {op}{t:TE}(h:PE X a t):PE X mp_ t:=λh1 s Z H Q I hw=>BoolOp_one rZ!
def c0d(ha:a2_)(hb:PE X eQ! tb):PE X eQ_ (BQ ta tb):=by
 intro h1 s Z H Q I h;refine BoolOp_and mq_;obtain⟨c,rfl,q1⟩:=q1;cases r1;refine JN ?_;cases c with
 |true=>exact hb h1 s1 Z H1 Q I1 q1
 |false=>exact⟨mr_,H1,I1,rfl,q1⟩
def c7k(ha:a2_)(hb:PE X eR! tb):PE X eR_ (EG ta tb):=by
 intro h1 s Z H Q I h;refine BoolOp_or mq_;obtain⟨c,rfl,q1⟩:=q1;cases r1;refine JN ?_;cases c with
 |false=>exact hb h1 s1 Z H1 Q I1 q1
 |true=>exact⟨gj_,H1,I1,rfl,q1⟩
def b9y(ha:a2_):PE X eS! (BL ta):=by intro h1 s Z H Q I h;refine UnaryOp_ mq_;obtain⟨c,rfl,q1⟩:=q1;cases r1;exact not_of (JN ⟨.bl (!c),H1,I1,rfl,q1⟩)
def GT(t:TT)(ta tb:TE):TE:=λZ H Q=>t Z H λc H1=>if c=true then ta Z H1 Q else tb Z H1 Q
def a7d{c:Expr}(hc:PT X c tA)(ha:a2_)(hb:cs!):PE X ms! (GT tA ta tb):=by
 intro h1 s Z H Q I h;refine wpAny_IfExp r0!;cases d with
 |true=>exact ha h1 s1 Z H1 Q I1 q1
 |false=>exact hb h1 s1 Z H1 Q I1 q1
end
end L2
namespace L2
open PySem PySem.Spec PyProof.Rows
def Fz(K:yS!)(H:Hp)(a:x7!)(xs:n_):Prop:=
 Rd H a T!\/
  ∃(o:Obj) (its:af!) (n:Nat),K.lookup a=some o/\o.cls=.type "list"/\o.dict=none/\o.data=.seq its n/\its.size<=sizeLine/\Bc xs iA!
def Gf(K:yS!)(H:Hp)(a:x7!)(xs:n_):Prop:=
 Rd H a bI!\/
  ∃(o:Obj) (its:af!) (n:Nat),K.lookup a=some o/\o.cls=.type "tuple"/\o.data=.seq its n/\its.size<=sizeLine/\Bc xs iA!
def FC:Value->Option V
 |.none=>some .non
 |.bool b=>some bK_
 |.int i _=>some bx!
 |.str x _=>some dL!
 |.bytes b _=>some (.byt b)
 |.float b _=>some (.flt b)
 |.ref a=>some ag!
 |.type n=>some (.ty n)
 |_=>none
def Bu.abs{x:V}{u:x5!}(r:Bu x u):FC u=some x:=by
 cases x with
 |non=>cases r;rfl
 |bl _=>cases r;rfl
 |int _=>obtain⟨t,rfl⟩:=r;rfl
 |str _=>obtain⟨t,rfl⟩:=r;rfl
 |byt _=>obtain⟨t,rfl⟩:=r;rfl
 |flt _=>obtain⟨t,rfl⟩:=r;rfl
 |ref _=>cases r;rfl
 |ty _=>cases r;rfl
def Bu.inj{x y:V}{u:x5!}(r:Bu x u)(q:Bu y u):x=y:=JJ (r.abs.symm.trans q.abs)
def Bc.inj:∀{xs ys:n_} {us:i_},Bc xs us->Bc ys us->xs=ys
 |_,_,_,.nil,.nil=>rfl
 |_,_,_,.cons r t,.cons r' t'=>by rw[r.inj r',Bc.inj t t']
section
variable{X:Cx}{h1:List (Addr×Obj)}{Z:St}{H:Hp}{s:yR!}{a:x7!}{xs ys:List V}
def Fz.of{K:yS!}(h:H a=some T!):Fz K H a xs:=.inl iA_
def Gf.of{K:yS!}(h:H a=some bI!):Gf K H a xs:=.inl iA_
def Inv.list(I:d_)(h:Fz X.K H a xs):∃its:List Value,Bc xs its/\PlainL s.heap a bg_/\m_<=sizeLine:=by
 obtain h|⟨o,its,n,hk,hc,hd,hs,hz,r⟩:=h
 .obtain⟨z,its,n,r,e⟩:=h.ok I.hok;exact⟨its,r,⟨_,n,e,rfl,rfl,rfl⟩,z⟩
 .refine⟨iA!,r,⟨o,n,I.kIn a o hk,hc,hd,r1_⟩,?_⟩;have e:=aX_;simp only[JU]at e;omega
def Inv.tuple(I:d_)(h:Gf X.K H a xs):∃its:List Value,Bc xs its/\IsTup s.heap a bg_/\m_<=sizeLine:=by
 obtain h|⟨o,its,n,hk,hc,hs,hz,r⟩:=h
 .obtain⟨z,its,r,p⟩:=h.ok I.hok;exact⟨its,r,p,z⟩
 .refine⟨iA!,r,⟨o,I.kIn a o hk,hc,n,r1_⟩,?_⟩;have e:=aX_;simp only[JU]at e;omega
def Inv.list_inj(I:d_)(h:Fz X.K H a xs)(h':Fz X.K H a ys):xs=ys:=by
 obtain⟨its,r,⟨o,n,e,_,_,d⟩,_⟩:=I.list h;obtain⟨its',r',⟨o',n',e',_,_,d'⟩,_⟩:=I.list h';rw[e]at e';cases e';rw[d]at d';injection d' with d1 _
 have:its=its':=by simpa using congrArg Array.toList d1
 subst this;exact r.inj r'
def Inv.tuple_inj(I:d_)(h:Gf X.K H a xs)(h':Gf X.K H a ys):xs=ys:=by
 obtain⟨its,r,⟨o,e,_,n,d⟩,_⟩:=I.tuple h;obtain⟨its',r',⟨o',e',_,n',d'⟩,_⟩:=I.tuple h';rw[e]at e';cases e';rw[d]at d';injection d' with d1 _
 have:its=its':=by simpa using congrArg Array.toList d1
 subst this;exact r.inj r'
end
abbrev Cx.wish(X:Cx)(E:q_):Cx:={X with xe:=E}
abbrev Cx.nox(X:Cx):Cx:=X.wish λ_ _=>False
def Cx.Ok.wish{X:Cx}(ok:X.Ok)(E:q_):(gl!).Ok:=
 r2!
def Cx.Ok.unwish{X:Cx}{E:q_}(ok:(gl!).Ok):X.Ok:=
 r2!
section
variable{X:Cx}{h1:List (Addr×Obj)}{Z:St}{H:Hp}{s:yR!}{E:Value->Shared->Prop}
def Inv.wish(I:d_)(E:q_):Inv gl! h1 Z H s:=⟨I.ok.wish E,I.os,I.bare,I.base,I.loc,I.cell,I.free,I.freeC,I.pin,I.hok,I.len⟩
def Inv.unwish(I:Inv gl! h1 Z H s):Inv X h1 Z H s:=⟨I.ok.unwish,I.os,I.bare,I.base,I.loc,I.cell,I.free,I.freeC,I.pin,I.hok,I.len⟩
def SP.unwish{D:Vo}{f:Flow}{s':yR!}(h:SP gl! h1 D f s'):SP X h1 D f s':=by
 cases f with
 |next=>obtain⟨σ,H',I,q⟩:=h;exact ms_
 |brk=>obtain⟨σ,H',I,q⟩:=h;exact ms_
 |cont=>obtain⟨σ,H',I,q⟩:=h;exact ms_
 |ret u=>obtain⟨v,σ,H',I,r,q⟩:=h;exact⟨v,σ,H',I.unwish,r,q⟩
def Uq.nox{st:b1_}{t:TS}(h:Uq X.nox st t):Uq X st t:=λh1 s Z H D I hw=>
 KL (h h1 s Z H D (I.wish _) hw) (λ_ _ q=>q.unwish) λ_ _ z=>False.elim z
end
section
variable{X:Cx}{st:Stmt}{rest:List Stmt}{t u:TS}{e:Expr}{te:TE}{pos:Pos}
def BM:TS:=λD Z H=>D.nx Z H
def EE(t u:TS):TS:=λD Z H=>t {D with nx:=u D} Z H
def b3q:Uq X [] BM:=λ_ _ Z H _ I h=>RA ⟨Z,H,I,h⟩
def a6z(Y:iB_)(L:Uq X rest u):Uq X mt! (EE t u):=by
 intro h1 s Z H D I h;refine wpAny_execs_cons (dM (Y h1 s Z H {D with nx:=u D} I h) λf s1 q=>?_);cases f with
 |next=>
  obtain⟨σ,H',I',q⟩:=q;exact L h1 s1 σ H' D I' q
 |ret v=>exact q
 |brk=>exact q
 |cont=>exact q
def b3p(Y:iB_):Uq X [st] t:=by
 intro h1 s Z H D I h;refine wpAny_execs_cons (dM (Y h1 s Z H D I h) λf s1 q=>?_);cases f with
 |next=>exact RA q
 |ret v=>exact q
 |brk=>exact q
 |cont=>exact q
def Inv.quiet{h1:o!}{Z:St}{H:Hp}{s:yR!}(I:d_):interactive X.env=false:=by simp[interactive,I.ok.kind]
def BN(te:TE):TS:=λD Z H=>te Z H λ_ H1=>D.nx Z H1
def vV(he:cv!)(hs:r5!:=by rfl):PS X (.Expr e pos) (BN te):=by intro h1 s Z H D I h;exact wpAny_Expr_any (dM c5_ λv s1 ⟨x,H1,I1,r1,q1⟩=>⟨Z,H1,I1,q1⟩) I.quiet hs
def EF(te:TE):TS:=λD Z H=>te Z H D.rt
def b9j(he:cv!):PS X mt_ (EF te):=by intro h1 s Z H D I h;exact wpAny_Return_some (dM c5_ λv s1 ⟨x,H1,I1,r1,q1⟩=>⟨x,Z,H1,I1,r1,q1⟩)
def BJ:TS:=λD _ H=>D.rt .non H
def c4q:PS X r7! BJ:=λ_ _ Z H _ I h=>wpAny_Return_none ⟨.non,Z,H,I,rfl,h⟩
def EJ(c:TT)(t u:TS):TS:=λD Z H=>c Z H λb H1=>if b=true then t D Z H1 else u D Z H1
def c7j{c:Expr}{a b:b1_}{tc:TT}(hc:PT X c tc)(ha:Uq X a t)(hb:Uq X b u):PS X (.If c a b pos) (EJ tc t u):=by
 intro h1 s Z H D I h;refine wpAny_If r0!;cases d with
 |true=>exact ha h1 s1 Z H1 D I1 q1
 |false=>exact hb h1 s1 Z H1 D I1 q1
end
abbrev TG:=V->St->Hp->xa!->Prop
abbrev AW:=List V->St->Hp->xa!->Prop
def PG(X:Cx)(vz:Expr)(t:TG):Prop:=
 ∀(h1:o!) (s:yR!) (Z:St) (H:Hp) (v:V) (u:x5!) (Q:iC_),Inv X h1 Z H s->Bu v u->t v Z H Q->
  wpAny e_ X.A (assign vz X.env u) r8! X.xe s
def DV(X:Cx)(ts:bK!)(t:AW):Prop:=
 ∀(h1:o!) (s:yR!) (Z:St) (H:Hp) (vs:n_) (us:i_) (Q:iC_),Inv X h1 Z H s->Bc vs us->t vs Z H Q->
  wpAny e_ X.A (assignInOrder ((assignEach ts X.env).map A_) us) r8! X.xe s
abbrev Zc:=V->V->V->Hp->mu_->Prop
def Wp(X:Cx)(t:Zc):Prop:=
 ∀(h1:o!) (s:yR!) (Z:St) (H:Hp) (o i v:V) (ov iv u:x5!) (Q:Hp->Prop),Inv X h1 Z H s->Bu o ov->Bu i iv->Bu v u->t o i v H Q->
  wpAny e_ X.A (setItem ov iv u) (λ_ s'=>∃H',Inv X h1 Z H' s'/\Q H') X.xe s
abbrev DQ:=V->V->Hp->VK->Prop
def GH(X:Cx)(op:Operator)(t:DQ):Prop:=
 ∀(h1:o!) (s:yR!) (Z:St) (H:Hp) (x y:V) (v u:x5!) (Q:VK),Inv X h1 Z H s->Bu x v->Bu y u->t x y H Q->
  wpAny e_ X.A (inplaceOp op v u) aM! X.xe s
section
variable{X:Cx}{pos:Pos}
def Oo(i:Nat):TG:=λv Z H Q=>Q eN! H
def aZ{i:Nat}{x:Str}(hN:bv_)(hi:ak_)(J:bw!)(hf:X.fn x=true\/X.env.scope.names.lookup x=some .local:=by first|exact .inl rfl|exact .inr rfl|assumption):PG X ct_ eU!:=by intro h1 s Z H v u Q I r h;exact wpAny_assign_Name (wO I hN hi J r (λs' I'=>⟨_,H,I',h⟩) hf)
def AT:AW:=λvs Z H Q=>vs=[]/\Q Z H
def Ul(t:TG)(u:AW):AW:=λvs Z H Q=>∃v r,vs=v::r/\t v Z H λσ H'=>u r σ H' Q
def b3v:DV X [] AT:=by intro h1 s Z H vs us Q I r h;obtain⟨e,h⟩:=h;subst e;cases r;exact assignInOrder_nil ⟨Z,H,I,h⟩
def qE{e:Expr}{es:bK!}{t:TG}{u:AW}(Y:PG X e t)(L:DV X es u)
  (hs:(assignEach aO! X.env).map A_=assign e X.env::(mv!).map A_:=by rfl):DV X aO! (Ul t u):=by
 intro h1 s Z H vs us Q I r h;obtain⟨v,vr,e1,h⟩:=h;subst e1;cases r with
 |cons r rr=>
  rw[hs];refine assignInOrder_cons (dM (Y h1 s Z H _ _ _ I r h) λ_ s1 ⟨dw,H1,I1,q1⟩=>?_);exact L h1 s1 dw H1 _ _ Q I1 rr q1
def AS(K:yS!)(n:Nat)(t:AW):TG:=λv Z H Q=>∃a xs,v=.ref a/\Gf K H a xs/\m_=n/\t xs Z H Q
def b9q{es:bK!}{k:Nat}{t:AW}{n:Nat}(hc:a4!)(h:DV X es t)
  (hn:(mv!).length=n:=by rfl)(b9:(mv!).findIdx? c_=none:=by rfl):PG X (.Tuple es k pos) (AS X.K n t):=by
 intro h1 s Z H v u Q I r hw;obtain⟨a,xs,e1,hq,hl,hw⟩:=hw;subst e1;cases r;obtain⟨its,rv,ht,hz⟩:=I.tuple hq;refine assign_Tuple_tuple bL! ht (by simp[hn,<-hl,rv.length]) b9 λh' J=>?_;have I1:Inv X h1 Z H {s with heap:=h'}:=I.kept (t':=s.toks) λb o e=>J b o (JG cY!) e;exact h h1 _ Z H xs _ Q I1 (by simpa using rv) hw
def FA(to ti:TE)(t:Zc):TG:=λv Z H Q=>to Z H λo H1=>ti Z H1 λi H2=>t o i v H2 λH3=>Q Z H3
def b9r{o:Expr}{to ti:TE}{t:Zc}(ho:PE X o to)(hi:PE X i ti)(hs:Wp X t)
  (ha:∀v,assign r9_ X.env v=(do
   let ov <-holding [v] dQ!
   let iv <-holding [v,ov] sb!
   standAt pos
   holding eU_ mx!
   release eU_ []):=by intro _;rfl):PG X r9_ (FA to ti t):=by
 intro h1 s Z H v u Q I r h;rw[ha];refine HI (JO (dM sa_ λov s1 ⟨x,H1,I1,r1,q1⟩=>?_));refine HI (JO (dM (hi h1 s1 Z H1 _ I1 q1) λiv s2 ⟨y,H2,I2,r2,q2⟩=>?_));refine HI (QO (HI (JO (dM (hs h1 s2 Z H2 x y v ov iv u _ I2 r1 r2 r q2) λ_ s3 ⟨H3,I3,q3⟩=>?_))));exact wpAny_release ⟨Z,H3,I3,q3⟩
def AB(te:TE)(g:TG):TS:=λD Z H=>te Z H λx H1=>g x Z H1 D.nx
def b9l{tg e:Expr}{te:TE}{g:TG}(he:cv!)(hg:my!)(hs:swapsWithSole [tg] e pos.line X.env=pure false:=by rfl)(hw:swappedStores [tg] e X.env=pure none:=by rfl)
  (Y:(assignEach [tg] X.env).map A_=[assign tg X.env]:=by rfl):PS X (.Assign [tg] e pos) (AB te g):=by
 intro h1 s Z H D I h;refine wpAny_Assign_stores sd! hs hw;rw[Y];exact dM (hg h1 s1 Z H1 x v _ I1 r1 q1) λ_ s2 q=>q
def b0y{i:Nat}{x:Str}{e:Expr}{te:TE}{ip:Pos}(hN:bv_)(hi:ak_)(J:bw!)(he:cv!)(hs:swapsWith e (some iF!) pos.line X.env=pure false:=by rfl)(hf:X.fn x=true\/X.env.scope.names.lookup x=some .local:=by first|exact .inl rfl|exact .inr rfl|assumption):
  PS X (.Assign [.Name x ip] e pos) (AB te eU!):=by
 intro h1 s Z H D I h;refine wpAny_Assign_Name (dM c5_ λv s1 ⟨y,H1,I1,r1,q1⟩=>?_) hs;exact wO I1 hN hi J r1 (λs2 I2=>⟨_,H1,I2,q1⟩) hf
def EM(i:Nat)(te:TE)(ti:DQ):TS:=λD Z H=>∃x,Z[i]?=some eV!/\te Z H λy H1=>ti x y H1 λz H2=>D.nx (Z.set i (some z)) H2
def c8s{i:Nat}{x:Str}{e:Expr}{te:TE}{op:Operator}{ti:DQ}{ip:Pos}(hN:bv_)(hi:ak_)(J:bw!)(he:cv!)(ho:GH X op ti)(hf:X.fn x=true\/X.env.scope.names.lookup x=some .local:=by first|exact .inl rfl|exact .inr rfl|assumption):
  PS X (.AugAssign iF! op e pos) (EM i te ti):=by
 intro h1 s Z H D I h;obtain⟨v,e1,h⟩:=h;obtain⟨m,hn,hl⟩:=I.loc;have YL:Wu X.env.scope x:=by obtain k|k:=J;exact .inl k;exact .inr (.inl k)
 obtain⟨u,r,l⟩:=hl i x v hi e1 YL;refine wpAny_AugAssign_Name ?_;have go:wpAny e_ X.A eO_ (λw ao=>wpAny e_ X.A (inplaceOp op u w) (λr dz=>wpAny e_ X.A (storeName X.env x r) (λ_=>SP X h1 D .next) X.xe dz) X.xe ao) X.xe s:=by
  refine dM c5_ λw s1 ⟨y,H1,I1,r1,q1⟩=>?_;refine dM (ho h1 s1 Z H1 v y u w _ I1 r r1 q1) λz s2 ⟨zv,H2,I2,r2,q2⟩=>?_;exact wO I2 hN hi J r2 (λs3 I3=>⟨_,H2,I3,q2⟩) hf
 obtain⟨hk,hm⟩|⟨hk,c,hc,cg⟩:=l
 .exact wpAny_loadName_local I.ok.kind hk hn hm go
 .obtain hk|hk:=hk
  .exact wpAny_loadName_cell I.ok.kind hk hc cg go
  .obtain k|k:=J
   .show"!l"
   .show"!l"
def GW(f:mz!):DQ:=λx y H Q=>∃i j,x=.int i/\y=.int j/\Q (.int (f i j)) H
def d0b:GH X .Add (GW λi j=>i+j):=by intro h1 s Z H x y v u Q I r1 r2 h;obtain⟨i,j,e1,e2,q⟩:=h;subst e1;subst e2;obtain⟨t,rfl⟩:=r1;obtain⟨t',rfl⟩:=r2;exact iadd_int iG!
def Zz(c:TT)(tb:TS):TS:=λD Z H=>∃W:Nat->St->Hp->Prop,(∃m,W m Z H)/\∀m Z H,W m Z H->
 c Z H λb H1=>if b=true then∃N:St->Hp->Prop,(∀σ H',N σ H'->∃m',m'<m/\W m' σ H')/\tb {D with nx:=N,ct:=N,bk:=D.nx} Z H1 else D.nx Z H1
def b9i{c:Expr}{body:b1_}{tc:TT}{tb:TS}(hp:go!)(hc:PT X c tc)(hb:Uq X body tb):PS X sf_ (Zz tc tb):=by
 intro h1 s Z H D I h;obtain⟨W,⟨m0,w0⟩,turn⟩:=h;refine wpAny_While (codeAny_whileLoop (λn s'=>∃σ H',Inv X h1 σ H' s'/\W n σ H') ?_ m0 ⟨Z,H,I,w0⟩);rintro n s1 ⟨dw,H1,I1,w1⟩;refine NQ hp (dM (hc h1 s1 dw H1 _ I1 (turn n dw H1 w1)) λb s2 ⟨H2,I2,q2⟩=>?_);cases b with
 |true=>
  obtain⟨N,hN,q2⟩:=q2;rw[k_];refine NQ hp (dM (hb h1 s2 dw H2 _ I2 q2) λf s3 q3=>?_);cases f with
  |next=>
   show"!e"
  |cont=>
   show"!e"
  |brk=>exact q3
  |ret v=>exact q3
 |false=>
  rw[HP IN];exact RA ⟨dw,H2,I2,q2⟩
end
structure It where
 go:Nat->Hp->Prop
 yld:Nat->Hp->V->Hp->Prop
 stop:Nat->Hp->Prop
def Ji(X:Cx)(h1:o!)(H:Hp)(b:x7!):Prop:=
 H b=none/\b≠X.env.locals/\b∉X.fs/\io!/\io_/\∀p∈X.pn++h1,p.1≠b
def Inv.fpOk{X:Cx}{h1:o!}{Z:St}{H H':Hp}{s:yR!}{b:x7!}(I:d_)(hb:o_<=b)(hn:H' b=none):Ji X h1 H' b:=by
 refine⟨hn,MV (IT I.lt hb),I.nofs hb,.inr (JB I.sz hb),λx c e z=>?_,λp hp z=>?_⟩
 .obtain⟨v,q⟩:=I.cell x c e;exact absurd (IT q.lt sg_) dI!
 .exact absurd (IT sh_ sg_) dI!
structure Tk(P:yp!)(w:xV!)(K:yS!)(tg:Expr)(af:It)(fp:aw_)(it:x7!)(tn:dR_):Prop where
 mem:it∈fp
 obj:∀i h,tn i h->∀b∈fp,∃o,h.get? b=some o/\∀v,o.data≠.cell v
 keep:∀i h h',tn i h->(∀b∈fp,∀o,h.get? b=some o->h'.get? b=some o)->tn i h'
 item:∀(X:Cx),X.prog=P->X.w=w->X.K=K->X.calm=true->∀(i:Nat) (h1:o!) (s:yR!) (Z:St) (H:Hp) (E:q_),Inv X h1 Z H s->sj!->tn i s.heap->af.go i H->
  wpAny G_ X.A iH_ (λr s1=>∃u,r=some u/\
   wpAny G_ X.A si_ (λ_ s2=>∃x H',Inv X h1 Z H' s2/\Bu x u/\af.yld i H x H'/\tn a5! s2.heap/\∀b∈fp,H' b=none) E s1) E s
 done:∀(X:Cx),X.prog=P->X.w=w->X.K=K->X.calm=true->∀(i:Nat) (h1:o!) (s:yR!) (Z:St) (H:Hp) (E:q_),Inv X h1 Z H s->sj!->tn i s.heap->af.stop i H->
  wpAny G_ X.A iH_ (λr s1=>r=none/\Inv X h1 Z H s1) E s
 self:∀(A:x6!) (i:Nat) (s:yR!) (Q:q_) (E:q_),tn i s.heap->Q b4! s->wpAny G_ A (pyIter b4!) Q E s
abbrev TI:=St->Hp->(It->Hp->Prop)->Prop
def DU(X:Cx)(h1:o!)(Z:St)(tg:Expr)(R:go_)(v0:x5!)(s2:yR!):Prop:=
 ∃(it:x7!) (fp:aw_) (tn:dR_) (af:It) (H':Hp),v0=.ref it/\Inv X h1 Z H' s2/\Tk X.prog X.w X.K tg af fp it tn/\tn 0 s2.heap/\(∀b∈fp,Ji X h1 H' b)/\R af H'
def PI(X:Cx)(tg iter:Expr)(wi:TI):Prop:=
 ∀(h1:o!) (s:yR!) (Z:St) (H:Hp) (R:go_),Inv X h1 Z H s->wi Z H R->
  wpAny e_ X.A (eval iter X.env) (λv s1=>wpAny e_ X.A (pyIter v) sj_ X.xe s1) X.xe s
def c2b{M:Model}{A:x6!}{E:q_}{s:yR!}{tg:Expr}{u:x5!}{o:Obj}{n:String}{vs:af!}{Q:cZ!}(ho:s.heap.get? it=some o)(hc:o.cls=.type n)(hd:o.data=.fields vs)
  (hn:(sk!).contains n=false)(hQ:Q () s):wpAny M A si_ Q E s:=by
 unfold letOwnedTupleGo;cases tg<;>first
  |exact HK hQ
  |(cases u<;>first
    |exact HK hQ
    |(refine HI (wpAny_load ho ?_);rw[hc,hd];show wpAny M A (if((sk!).contains n&&vs[0]?==some (rawInt _))=true then _ else _) Q E s;rw[HP (by intro h;rw[hn,Bool.false_and]at h;cases h)];exact HK hQ))
def FL(K:yS!)(a:x7!):It:=
 ⟨λi H=>∃xs x,Fz K H a xs/\xs[i]?=some x,λi H x H'=>H'=H/\∀xs,Fz K H a xs->xs[i]?=some x,λi H=>∃xs,Fz K H a xs/\m_<=i⟩
def HH(K:yS!)(a:x7!):It:=
 ⟨λi H=>∃xs x,Gf K H a xs/\xs[i]?=some x,λi H x H'=>H'=H/\∀xs,Gf K H a xs->xs[i]?=some x,λi H=>∃xs,Gf K H a xs/\m_<=i⟩
def CV(lo:Int)(n:Nat):It:=⟨λi _=>i<n,λi H x H'=>H'=H/\x=.int (lo+i),λi _=>n<=i⟩
def b5r{P:yp!}{w:xV!}{K:yS!}{tg:Expr}(a it:x7!):Tk P w K tg (FL K a) [it] it (λi h=>h.IsListIter it a i) where
 mem:=by simp
 obj:=λi h st b hb=>by
  have e:b=it:=by simpa using hb
  subst e;show"##"
 keep:=λi h h' st k=>st.at λo e=>k it d! o e
 item:=by
  show"!/";obtain⟨xs,x,hq,J⟩:=hg;obtain⟨its,rv,p,hz⟩:=I.list hq;obtain⟨u,hu,ru⟩:=rv.get J;show"!2";refine wpAny_pyNext_list_item st p.isList (x:=u) sn! λh' h2 sb=>?_;have I1:Inv X h1 Z H {s with heap:=h'}:=I.turned (t':=s.toks) sn_ f0 f1 f3 f4 f5;obtain⟨o,e,c,d⟩:=id h2;exact⟨u,rfl,c2b (s:=mD_) e c d b_ ⟨x,H,I1,ru,⟨rfl,λys hy=>by rw[I.list_inj hy hq];exact J⟩,h2,mE_⟩⟩
 done:=by
  show"!/";obtain⟨xs,hq,J⟩:=hg;obtain⟨its,rv,p,hz⟩:=I.list hq;show"!2";have hl:=gq_;exact wpAny_pyNext_list_end bL! st p.isList am! λh' eb=>mF!
 self:=λ_ _ _ _ _ st h=>wpAny_pyIter_listiter st h
def a9y{P:yp!}{w:xV!}{K:yS!}{tg:Expr}(it:x7!)(lo:Int)(n:Nat):Tk P w K tg (CV lo n) [it] it (λi h=>IsRangeIter h it (lo+(i:Nat)*1) ((n:Int) - (i:Nat)) 1) where
 mem:=by simp
 obj:=λi h st b hb=>by
  have e:b=it:=by simpa using hb
  subst e;exact⟨_,st,λv z=>by
   have z':Data.fields _=Data.cell v:=z;cases z'⟩
 keep:=λi h h' st k=>k it d! _ st
 item:=by
  show"!/";show"!2";have W:=Walks.range (prog:=X.prog) (w:=X.w) bL! it lo 1 n;refine W.item i s _ _ hg st λv h' tk hv h2 kk=>?_;obtain⟨t,rfl⟩:=hv;show"!]";refine⟨_,rfl,c2b (s:={s with heap:=h',toks:=tk}) (n:="range_iterator") h2 rfl rfl b_ ⟨.int (lo+i),H,I1,⟨t,?_⟩,bi_,h2,mE_⟩⟩;rw[Int.mul_one]
 done:=by
  show"!/";show"!2";exact wpAny_pyNext_range_end bL! st (by have:n<=i:=hg;omega) λh' eb=>mF!
 self:=λ_ _ _ _ _ st h=>wpAny_pyIter_rangeiter st h
end L2
namespace L2
open PySem PySem.Spec PyProof.Rows
section
variable{X:Cx}{tg:Expr}
def CN(K:yS!)(tl:TE):TI:=λZ H R=>tl Z H λx H1=>∃a,x=.ref a/\(∃xs,Fz K H1 a xs)/\R (FL K a) H1
def EZ(K:yS!)(tl:TE):TI:=λZ H R=>tl Z H λx H1=>∃a,x=.ref a/\(∃xs,Gf K H1 a xs)/\R (HH K a) H1
def b3u{l:Expr}{tl:TE}(hl:PE X l tl):PI X tg l (CN X.K tl):=by
 intro h1 s Z H R I h;refine dM ss! λv s1 ⟨x,H1,I1,r1,q1⟩=>?_;obtain⟨a,e,⟨xs,hq⟩,q⟩:=q1;subst e;cases r1;obtain⟨its,rv,p,hz⟩:=I1.list hq;refine wpAny_pyIter_list p.isList ?_;refine⟨D!,[D!],_,_,H1,rfl,mG_,b5r a _,eW_,bz!,q⟩;have e:b=D!:=by simpa using hb
 show"!p"
def a6x{h1:o!}{Z:St}{H:Hp}{s:yR!}{R:go_}{E:q_}{lo hi:Int}{t u v:Tok}{tk:Nat}(I:d_)(Y:-gs!<=lo)(L:lo<2 ^ 62)(h3:-gs!<=hi)(h4:hi<2 ^ 62)
  (q:R (CV lo (mH!).toNat) H):wpAny e_ X.A (pyIter c6_) sj_ E {s with heap:=s.heap.push {cls:=.type "range",data:=.fields #[.int lo t,.int hi u,.int 1 v]},toks:=tk}:=by
 refine wpAny_pyIter_range (IsRange.new ..) (small_one Y L h3 h4) ?_;have I1:Inv X h1 Z H {s with heap:=s.heap.push {cls:=.type "range",data:=.fields #[.int lo t,.int hi u,.int 1 v]},toks:=tk}:=I.kept λb o e=>HM _ e;refine⟨(mH_).objs.size,[(mH_).objs.size],_,_,H,rfl,
  I1.kept (t':=tk) λb o e=>HM _ e,a9y _ lo (mH!).toNat,?_,λb hb=>?_,q⟩
 .have e1:lo+iK_*1=lo:=by simp
  have e2:ss_ - iK_=Builtin.Range.rangeSize lo hi 1:=by rw[rangeSize_one];split<;>omega
  show IsRangeIter _ _ (lo+iK_*1) (ss_ - iK_) 1;rw[e1,e2];exact IP _ rfl
 .have e:b=(mH_).objs.size:=by simpa using hb
  show"!p"
def CM(ta:TA):TI:=λZ H R=>ta Z H λvs H1=>∃j:Int,vs=[dS_]/\-gs!<=j/\j<2 ^ 62/\R (CV 0 j.toNat) H1
def CL(ta:TA):TI:=λZ H R=>ta Z H λvs H1=>∃i j:Int,vs=[cu!,dS_]/\(-gs!<=i/\i<2 ^ 62/\-gs!<=j/\j<2 ^ 62)/\R (CV i (j - i).toNat) H1
def b6k{a:Expr}{ta:TA}{p pos:Pos}(hg:iL_)(hm:iL!)(ha:PA X [a] ta)(hs:su_:=by rfl):PI X tg sv_ (CM ta):=by
 intro h1 s Z H R I h;refine Call_ (kU I hg hm boot_range (LM mK! hs rfl));obtain⟨j,e,q1,q2,q⟩:=q1;subst e;cases r1 with
 |cons r rr=>
  cases rr;obtain⟨t,rfl⟩:=r;exact call_range_1 (a6x I1 a! a! q1 q2 (by simpa using q))
def b6j{a b:Expr}{ta:TA}{p pos:Pos}(hg:iL_)(hm:iL!)(ha:PA X aq! ta)(hs:sw_:=by rfl)(bq:sx!:=by rfl):
  PI X tg sx_ (CL ta):=by
 intro h1 s Z H R I h;refine Call_ (kU I hg hm boot_range (LM mK! (by rw[hs,bq]) (by rw[bq];rfl)));obtain⟨i,j,e,⟨q1,q2,q3,q4⟩,q⟩:=q1;subst e;cases r1 with
 |cons r rr=>
  cases rr with
  |cons r' rr=>
   cases rr;obtain⟨t,rfl⟩:=r;obtain⟨t',rfl⟩:=r';exact call_range_2 (a6x I1 q1 q2 q3 q4 q)
def EK(wi:TI)(g:TG)(tb:TS):TS:=λD Z H=>wi Z H λaf H1=>∃W:Nat->Nat->St->Hp->Prop,(∃m,W 0 m Z H1)/\∀i m Z H,W i m Z H->
 (af.stop i H/\D.nx Z H)\/(af.go i H/\∃N:St->Hp->Prop,(∀σ H',N σ H'->∃m',m'<m/\W a5! m' σ H')/\∀x H',af.yld i H x H'->g x Z H' λdb H2=>tb {D with nx:=N,ct:=N,bk:=D.nx} db H2)
def Rj(fp:aw_)(h:Heap):List eL_:=fp.filterMap λb=>(h.get? b).map λo=>(b,o)
def kR{fp:aw_}{h:Heap}{b:x7!}{o:Obj}(hb:b∈fp)(e:rc_):(b,o)∈Rj fp h:=MO.mpr ⟨b,hb,by rw[e];rfl⟩
def b6y{fp:aw_}{h:Heap}{p:Addr×Obj}(hp:p∈Rj fp h):p.1∈fp/\h.get? p.1=some p.2:=by
 obtain⟨b,hb,e⟩:=MO.mp hp;cases q:h.get? b with
 |none=>rw[q]at e;cases e
 |some o=>
  rw[q]at e;have e':(b,o)=p:=JJ e;subst e';exact⟨hb,q⟩
def Inv.pinned{h1:o!}{Z:St}{H:Hp}{s:yR!}{fp:aw_}(I:d_)(hf:∀b∈fp,Ji X h1 H b)(ho:∀b∈fp,∃o,s.heap.get? b=some o/\∀v,o.data≠.cell v):Inv X (h1++Rj fp s.heap) Z H s:=
 I.pins_of λp hp=>(HX.mp hp).elim (λz=>I.pin p (IA _ z)) λz=>by
  obtain⟨hb,e⟩:=b6y z;obtain⟨f0,f1,f2,_⟩:=hf p.1 hb;obtain⟨o,e',d⟩:=ho p.1 hb;rw[e]at e';cases e';exact⟨e,f0,f1,f2,d⟩
def Inv.unpinned{h1 pl:o!}{Z:St}{H:Hp}{s:yR!}(I:Inv X (h1++pl) Z H s):Inv X h1 Z H s:=I.pins_of λp hp=>I.pin p (IA _ (IS _ hp))
def b9k{body:b1_}{wi:TI}{g:TG}{tb:TS}{pos:Pos}(hp:go!)(hc:a4!)(hi:mL_)(hg:my!)(hb:Uq X body tb)
  (hs:c7!:=by intro _;rfl):PS X sA_ (EK wi g tb):=by
 intro h1 s Z H D I h;refine wpAny_For (dM (hi h1 s Z H _ I h) λv s1 Y=>dM Y λv0 s2 L=>?_) hs;obtain⟨it,fp,tn,af,H2,e,I2,T,bh,f2,W,⟨m0,w0⟩,turn⟩:=L;subst e;have m8:∀{H':Hp},gt_->∀b∈fp,Ji X h1 H' b:=λhn b hb=>⟨hn b hb,(iN!).2⟩;refine codeAny_forLoop_any (λn s'=>∃i σ H',Inv X h1 σ H' s'/\tn i s'.heap/\gt_/\W i n σ H') ?_ m0 ⟨0,Z,H2,I2,bh,sB_,w0⟩;rintro n s3 ⟨i,gr,H3,I3,v7,v8,w3⟩;obtain⟨stop,qn⟩|⟨go,N,hN,step⟩:=turn i n gr H3 w3
 .refine NQ hp (dM (T.done X rfl rfl rfl hc i h1 s3 gr H3 X.xe I3 (m8 v8) v7 stop) λr s4 ⟨hr,I4⟩=>?_);subst hr;exact RA ⟨gr,H3,I4,qn⟩
 .refine NQ hp (dM (T.item X rfl rfl rfl hc i h1 s3 gr H3 X.xe I3 (m8 v8) v7 go) λr s4 ⟨u,hr,h4⟩=>?_);subst hr;refine NQ hp (dM h4 λ_ s5 ⟨x,H5,I5,r5,y5,m9,yn⟩=>?_);have yo:=I5.pinned (m8 yn) sC!;refine NQ hp (dM (hg _ s5 gr H5 x u _ yo r5 sC_) λ_ s6 ⟨li,H6,I6,q6⟩=>?_);refine NQ hp (dM (hb _ s6 li H6 _ I6 q6) λf s7 q7=>?_);have again:∀{iy:St} {H7:Hp},Inv X (h1++Rj fp s5.heap) iy H7 s7->N iy H7->∃m,m<n/\∃i σ H',Inv X h1 σ H' s7/\tn i s7.heap/\gt_/\W i m σ H':=λ{iy H7} I7 n7=>by
   obtain⟨m',hm,w7⟩:=hN iy H7 n7;refine⟨m',hm,i+1,iy,H7,iN_,T.keep _ _ _ m9 λb hb o e=>(sD_).1,bz!,w7⟩;obtain⟨o,e,d⟩:=T.obj _ _ m9 b hb;exact(sD_).2.1
  cases f with
  |next=>obtain⟨iy,H7,I7,n7⟩:=q7;exact again I7 n7
  |cont=>obtain⟨iy,H7,I7,n7⟩:=q7;exact again I7 n7
  |brk=>obtain⟨iy,H7,I7,q7⟩:=q7;exact⟨iy,H7,iN_,q7⟩
  |ret v=>obtain⟨x7,iy,H7,I7,r7,q7⟩:=q7;exact⟨x7,iy,H7,iN_,r7,q7⟩
end
end L2
namespace L2
open PySem PySem.Spec PyProof.Rows
abbrev R2:=V->V->Hp->VK->Prop
def Gx(X:Cx)(f:eZ!)(r:R2):Prop:=
 ∀(h1:o!) (s:yR!) (Z:St) (H:Hp) (x y:V) (v u:x5!) (Q:VK),Inv X h1 Z H s->Bu x v->Bu y u->r x y H Q->
  wpAny e_ X.A (f v u) aM! X.xe s
def FF(X:Cx)(f:sF_)(r:mN_):Prop:=
 ∀(h1:o!) (s:yR!) (Z:St) (H:Hp) (x:V) (v:x5!) (Q:VK),Inv X h1 Z H s->Bu x v->r x H Q->
  wpAny e_ X.A (f v) aM! X.xe s
def Kj(X:Cx)(f:x5!)(r:dU!):Prop:=
 ∀(h1:o!) (s:yR!) (Z:St) (H:Hp) (xs:n_) (us:i_) (Q:VK),Inv X h1 Z H s->Bc xs us->r xs H Q->
  wpAny e_ X.A (call f us) aM! X.xe s
def FG(X:Cx)(r:V->Hp->rI_->Prop):Prop:=
 ∀(h1:o!) (s:yR!) (Z:St) (H:Hp) (x:V) (v:x5!) (Q:dK_),Inv X h1 Z H s->Bu x v->r x H Q->
  wpAny e_ X.A mn_ iv_ X.xe s
def BD(r:R2)(ta tb:TE):TE:=λZ H Q=>ta Z H λx H1=>tb Z H1 λy H2=>r x y H2 Q
def GQ(r:mN_)(ta:TE):TE:=λZ H Q=>ta Z H λx H1=>r x H1 Q
nonrec def rI(C:mO!)(g:iO_):R2:=λx y H Q=>∃i j,x=.int i/\y=.int j/\C i j/\Q bA! H
def Sw(g:iO_):R2:=λx y H Q=>∃i j,x=.int i/\y=.int j/\Q bA! H
nonrec def rU(g:Int->V):V->Hp->VK->Prop:=λx H Q=>∃i,x=.int i/\Q (g i) H
section
variable{X:Cx}{a b c:Expr}{ta tb tc:TE}{pos:Pos}
def d1f(ha:a2_)(hb:cs!){h1:o!}{s:yR!}{Z:St}{H:Hp}{R:vQ_}(I:d_)
  (h:rL!){Q:q_}{f:eZ!}
  (hf:rL_):
  wpAny e_ X.A mg! rN! X.xe s:=by
 show"!8"
def b9w{op:Operator}{r:R2}(ho:mO_)(ha:a2_)(hb:cs!):PE X mP! iP!:=by intro h1 s Z H Q I h;exact wpAny_BinOp sG!
def d2n{op:UnaryOp}{r:mN_}(ho:FF X (unaryOp op) r)(ha:a2_):PE X (.UnaryOp op a pos) (GQ r ta):=by intro h1 s Z H Q I h;exact UnaryOp_ (dM b2! λv s1 ⟨x,H1,I1,r1,q1⟩=>ho h1 s1 Z H1 x v Q I1 r1 q1)
def opI{f:eZ!}{C:mO!}{g:mz!}
  (rule:∀(i j:Int) (t u:Tok) (s:yR!) (Q:q_) (E:q_),C i j->Q sG_ {s with toks:=s.toks+1}->wpAny e_ X.A mQ! Q E s):
  Gx X f (rI C λi j=>.int bA!):=by
 intro h1 s Z H x y v u Q I rx ry h;obtain⟨i,j,rfl,rfl,hc,q⟩:=h;show"!@";obtain⟨t',rfl⟩:=ry;exact rule i j t t' s _ _ hc sH_
def d2s{f:eZ!}{g:mz!}
  (rule:∀(i j:Int) (t u:Tok) (s:yR!) (Q:q_) (E:q_),Q sG_ {s with toks:=s.toks+1}->wpAny e_ X.A mQ! Q E s):
  Gx X f (Sw λi j=>.int bA!):=by
 show"!H";exact rule i j t t' s _ _ sH_
def c5e{f:eZ!}{g:mQ_}
  (rule:∀(i j:Int) (t u:Tok) (s:yR!) (Q:q_) (E:q_),Q (.bool bA!) s->wpAny e_ X.A mQ! Q E s):
  Gx X f (Sw λi j=>.bl bA!):=by
 show"!H";exact rule i j t t' s _ _ ⟨.bl bA!,H,I,rfl,q⟩
def BB(i j:Int):Prop:=0<j/\j<1073741824
def BA(i j:Int):Prop:=0<=j/\j<=1000000/\gw!<2 ^ 64
def Yb(i j:Int):Prop:=(-iQ_<i/\i<2 ^ 64)\/(-iQ_<j/\j<2 ^ 64)
def Yb.ok{i j:Int}(h:Yb i j):IntMulOk i j:=by
 obtain⟨Y,L⟩|⟨Y,L⟩:=h
 .exact .of_left sI!
 .exact .of_right sI!
def c9f:Gx X e0_ (Sw λi j=>.int (i+j)):=d2s λ_ _ _ _ _ _ _ q=>add_int q
def sQ:Gx X (binaryOp .Sub) sJ!:=d2s λ_ _ _ _ _ _ _ q=>sub_int q
def sR:Gx X sJ_ mR!:=opI λ_ _ _ _ _ _ _ hc q=>mul_int q hc.ok
def nU:Gx X (binaryOp .FloorDiv) mS!:=opI λi j _ _ _ _ _ hc q=>by
 have Y:(0:Int)<j:=hc.1;have L:j<1073741824:=hc.2;exact floordiv_int a! (by rw[Int.fdiv_eq_ediv_of_nonneg i a!];exact q) (.inl (PyProof.noPylong_small a!))
def eP:Gx X (binaryOp .Mod) mS_:=opI λi j _ _ _ _ _ hc q=>by
 have Y:(0:Int)<j:=hc;exact mod_int' a! (by rw[Int.fmod_eq_emod_of_nonneg i a!];exact q)
def c9b:Gx X (binaryOp .Pow) mT_:=opI λ_ _ _ _ _ _ _ hc q=>pow_int_small hc.1 hc.2.1 hc.2.2 q
def unI{f:sF_}{g:Int->Int}
  (rule:∀(i:Int) (t:Tok) (s:yR!) (Q:q_) (E:q_),Q (.int (g i) s.toks) {s with toks:=s.toks+1}->wpAny e_ X.A (f dE_) Q E s):
  FF X f (rU λi=>.int (g i)):=by
 intro h1 s Z H x v Q I rx h;obtain⟨i,rfl,q⟩:=h;show"!@";exact rule i t s _ _ ⟨.int (g i),H,a3!,L!,q⟩
def c8f:FF X (unaryOp .USub) (rU λi=>.int (-i)):=unI λ_ _ _ _ _ q=>neg_int q
end
def EO:V->V->Bool
 |.non,.non=>true|.non,.int _=>true|.int _,.non=>true|.non,.bl _=>true|.bl _,.non=>true|.non,.str _=>true|.str _,.non=>true
 |.int _,.int _=>true|.bl _,.bl _=>true|.str _,.str _=>true|.byt _,.byt _=>true
 |.int _,.str _=>true|.str _,.int _=>true|.bl _,.str _=>true|.str _,.bl _=>true
 |_,_=>false
def FY:R2:=λx y H Q=>EO x y=true/\Q (.bl (!decide (x=y))) H
def b4z{i j:Int}:decide (V.int i=V.int j)=(i==j):=by rw[LS];simp
def d0r{i j:Bool}:decide (V.bl i=V.bl j)=(i==j):=by rw[LS];simp
def b4y:decide (V.str i=V.str j)=(i==j):=by rw[LS];simp
def c6m{i j:Array UInt8}:decide (V.byt i=V.byt j)=(i.toList==j.toList):=by rw[LS];cases i;cases j;simp
section
variable{X:Cx}{a b c:Expr}{ta tb tc:TE}{pos:Pos}
def eU{h1:o!}{Z:St}{H:Hp}{s:yR!}{Q:VK}{k k':Bool}(I:d_)(q:Q (.bl k) H)(e:k=k'):EP X h1 Z Q (.bool k') s:=by subst e;exact⟨.bl k,H,I,rfl,q⟩
def a0o:Gx X sO! FY:=by
 intro h1 s Z H x y v u Q I rx ry h;obtain⟨hs,q⟩:=h;cases x with
 |non=>
  cases rx;cases y with
  |non=>cases ry;exact PySem.EqNone.ne_none_none bN!
  |bl j=>cases ry;exact PySem.EqNone.ne_none_bool bN!
  |int j=>obtain⟨t',rfl⟩:=ry;exact PySem.EqNone.ne_none_int bN!
  |str j=>obtain⟨t',rfl⟩:=ry;exact PySem.EqNone.ne_none_str bN!
  |_=>exact absurd e1_ IN
 |bl i=>
  cases rx;cases y with
  |non=>cases ry;exact PySem.EqNone.ne_bool_none bN!
  |bl j=>cases ry;exact ne_bool (eU I q (congrArg not d0r))
  |str j=>obtain⟨t',rfl⟩:=ry;exact PySem.EqMixed.ne_bool_str bN!
  |_=>exact absurd e1_ IN
 |int i=>
  obtain⟨t,rfl⟩:=rx;cases y with
  |non=>cases ry;exact PySem.EqNone.ne_int_none bN!
  |int j=>obtain⟨t',rfl⟩:=ry;exact ne_int (eU I q (congrArg not b4z))
  |str j=>obtain⟨t',rfl⟩:=ry;exact PySem.EqMixed.ne_int_str bN!
  |_=>exact absurd e1_ IN
 |str i=>
  obtain⟨t,rfl⟩:=rx;cases y with
  |non=>cases ry;exact PySem.EqNone.ne_str_none bN!
  |bl j=>cases ry;exact PySem.EqMixed.ne_str_bool bN!
  |int j=>obtain⟨t',rfl⟩:=ry;exact PySem.EqMixed.ne_str_int bN!
  |str j=>obtain⟨t',rfl⟩:=ry;exact ne_str (eU I q (congrArg not b4y))
  |_=>exact absurd e1_ IN
 |byt i=>
  obtain⟨t,rfl⟩:=rx;cases y with
  |byt j=>obtain⟨t',rfl⟩:=ry;exact W.ne_bytes (eU I q (congrArg not c6m))
  |_=>exact absurd e1_ IN
 |_=>cases y<;>exact absurd e1_ IN
def b4b:Gx X (compareOp .Lt) mV_:=c5e λ_ _ _ _ _ _ _ q=>lt_int q
def d2p:Gx X mW! (Sw λi j=>.bl mW_):=c5e λ_ _ _ _ _ _ _ q=>le_int q
def c7m:Gx X sQ! mY!:=c5e λ_ _ _ _ _ _ _ q=>gt_int q
def d2r:Gx X (compareOp .GtE) mZ!:=c5e λ_ _ _ _ _ _ _ q=>ge_int q
def b1a:Gx X sR_ sS!:=by
 intro h1 s Z H x y v u Q I rx ry h;obtain⟨rfl,q⟩:=h;cases ry;refine is_none_gen (eU I q ?_);cases x<;>first
  |(cases rx;rfl)
  |(obtain⟨t,rfl⟩:=rx;rfl)
def nT:Gx X sS_ sT!:=by
 intro h1 s Z H x y v u Q I rx ry h;obtain⟨rfl,q⟩:=h;cases ry;refine isnot_none_gen (eU I q ?_);cases x<;>first
  |(cases rx;rfl)
  |(obtain⟨t,rfl⟩:=rx;rfl)
def Gx.or{f:eZ!}{r r':R2}(h:Gx X f r)(h':Gx X f r'):Gx X f sU!:=by
 intro h1 s Z H x y v u Q I rx ry q;obtain q|q:=q
 .exact h h1 s Z H x y v u Q I rx ry q
 .exact h' h1 s Z H x y v u Q I rx ry q
def aR(b:Expr){op:CmpOp}(h:op≠.In:=by decide)(L:op≠.NotIn:=by decide):behindInMarks op b=false:=by
 have e1:rV_=false:=by cases op<;>first|rfl|exact absurd rfl h
 have e2:rW!=false:=by cases op<;>first|rfl|exact absurd rfl L
 cases b<;>simp[behindInMarks,e1,e2]
def b3x{op:CmpOp}{r:R2}(ho:b5_)(ha:a2_)(hb:cs!)(hm:dL_):PE X dM! iP!:=by intro h1 s Z H Q I h;exact wpAny_Compare1 sG! hm
def Zk(t:TE):TT:=λZ H Q=>t Z H λx H'=>∃k,x=.bl k/\Q k H'
def b3o{op:CmpOp}{r:R2}(ho:b5_)(ha:a2_)(hb:cs!)(hm:dL_):PT X dM! (Zk iP!):=by
 intro h1 s Z H Q I h;refine QY (dM b2! λv s1 ⟨x,H1,I1,r1,q1⟩=>dM gh! λu s2 ⟨y,H2,I2,r2,q2⟩=>
  dM mZ_ λc s3 ⟨z,H3,I3,r3,k,e,q3⟩=>?_) hm
 subst e;cases r3;exact JN ⟨H3,I3,q3⟩
def Xb(r r':R2)(ta tb tc:TE):TE:=λZ H Q=>ta Z H λx H1=>tb Z H1 λy H2=>r x y H2 λz H3=>∃k,z=.bl k/\
 (if k=true then tc Z H3 λw' H4=>r' y w' H4 Q else Q Q! H3)
def c0c{op fm:CmpOp}{r r':R2}(ho:b5_)(fh:iU!)(ha:a2_)(hb:cs!)(hc:PE X c tc)
  (hm:iU_:=by with_unfolding_all rfl):PE X iV! sV_:=by
 intro h1 s Z H Q I h;refine Compare_chain (dM b2! λv s1 ⟨x,H1,I1,r1,q1⟩=>chain_link (dM gh! λu s2 ⟨y,H2,I2,r2,q2⟩=>
  dM mZ_ λd s3 ⟨z,H3,I3,r3,k,e,q3⟩=>?_)) hm
 subst e;cases r3;refine JN ?_;cases k with
 |false=>exact ite_ff ⟨mr_,H3,I3,rfl,q3⟩
 |true=>exact ite_tt (chain_last (dM sW! λw' s4 ⟨z',H4,I4,r4,q4⟩=>fh h1 s4 Z H4 y z' u w' Q I4 r2 r4 q4))
def b9h{op fm:CmpOp}{r r':R2}(ho:b5_)(fh:iU!)(ha:a2_)(hb:cs!)(hc:PE X c tc)
  (hm:iU_:=by with_unfolding_all rfl):PT X iV! (Zk sV_):=by
 intro h1 s Z H Q I h;refine isTrue_chain (dM b2! λv s1 ⟨x,H1,I1,r1,q1⟩=>test_link (dM gh! λu s2 ⟨y,H2,I2,r2,q2⟩=>
  dM mZ_ λd s3 ⟨z,H3,I3,r3,k,e,q3⟩=>?_)) hm
 subst e;cases r3;refine JN ?_;cases k with
 |false=>
  obtain⟨k',e',q'⟩:=q3;cases e';exact ite_ff ⟨H3,I3,q'⟩
 |true=>
  refine ite_tt (test_last (dM sW! λw' s4 ⟨z',H4,I4,r4,q4⟩=>dM (fh h1 s4 Z H4 y z' u w' _ I4 r2 r4 q4) λd' s5 ⟨z2,H5,I5,r5,k2,e2,q5⟩=>?_));subst e2;cases r5;exact JN ⟨H5,I5,q5⟩
def CS(K:yS!)(x:V)(H:Hp)(k:Bool):Prop:=
 match x with
 |.non=>k=false
 |.bl b=>k=b
 |.int i=>k=gy_
 |.str y=>cy!<=sizeLine/\k=((cy!:Int) != 0)
 |.byt y=>y.size<=sizeLine/\k=((y.size:Int) != 0)
 |.ref p=>(∃xs,Fz K H p xs/\k=! dX_)\/(∃xs,Gf K H p xs/\k=! dX_)\/∃kvs,H p=some dY!/\k=! m3!
 |_=>False
def b1u{κ:Type}{kvs:gz!}{vs:List lP_}(r:KV kvs vs):(!vs.isEmpty)=! m3!:=by cases r<;>rfl
def yL{xs:n_}{its:i_}(r:Bc xs its):(! m3_)=! dX_:=by cases r<;>simp
def tQ:(sizeLine:Nat)<2 ^ 63:=by rw[JV];decide
def c8h:FG X (λx H Q=>∃k,CS X.K x H k/\Q k H):=by
 intro h1 s Z H x v Q I rx h;obtain⟨k,e,q⟩:=h;have hl:=tQ;have hs:sizeLine=16777216:=JV;cases x with
 |non=>
  cases rx;have e':k=false:=e;subst e';exact truthy_none m4!
 |bl b=>
  cases rx;have e':k=b:=e;subst e';exact JN m4!
 |int i=>
  show"!@";have e':k=gy_:=e;subst e';exact PySem.P.truthy_int m4!
 |str y=>
  show"!@";obtain⟨hy,e'⟩:cy!<=sizeLine/\k=((cy!:Int) != 0):=e;subst e';exact PySem.P.truthy_str a! ⟨H,a3!,q⟩
 |byt y=>
  show"!@";obtain⟨hy,e'⟩:y.size<=sizeLine/\k=((y.size:Int) != 0):=e;subst e';exact W.truthy_bytes a! ⟨H,a3!,q⟩
 |ref p=>
  cases rx;have e':(∃xs,Fz X.K H p xs/\k=! dX_)\/(∃xs,Gf X.K H p xs/\k=! dX_)\/∃kvs,H p=some dY!/\k=! m3!:=e;obtain⟨xs,J,e'⟩|⟨xs,J,e'⟩|⟨kvs,J,e'⟩:=e'
  .subst e';obtain⟨its,r,pl,hz⟩:=I.list J;have ap:=aX_;exact wpAny_truthy_list pl.isList iW! s0!
  .subst e';obtain⟨its,r,pl,hz⟩:=I.tuple J;have ap:=aX_;exact truthy_tuple pl iW! s0!
  .subst e';obtain⟨hz,hS,vs,r,m⟩:aE_<=sizeLine/\(p==sysModules)=false/\∃vs,KV kvs vs/\s.heap.DictOf (mixKind X.prog X.w) p vs:=I.hok p _ J;have ap:aE_=bB!:=MQ r;exact wpAny_truthy_dict hS m a! ⟨H,a3!,by rw[b1u r];exact q⟩
 |_=>exact(s1!).elim
def b9f(ha:a2_)(he:∀du,isTrue a X.env du=(do let v <-du;standAt a.pos;holding [v] mn_)):
  PT X a (λZ H Q=>ta Z H λx H'=>∃k,CS X.K x H' k/\Q k H'):=by
 show"!K";exact isTrue_plain (dM b2! λv s1 ⟨x,H1,I1,r1,q1⟩=>c8h h1 s1 Z H1 x v Q I1 r1 q1) (he _)
def b1b:Gx X e0_ (λx y H Q=>∃i j,x=.str i/\y=.str j/\i.length+j.length<=sizeLine/\Q (.str (i++j)) H):=by intro h1 s Z H x y v u Q I rx ry h;obtain⟨i,j,rfl,rfl,hz,q⟩:=h;obtain⟨t,rfl⟩:=rx;obtain⟨t',rfl⟩:=ry;exact add_str (λt' tk=>⟨.str (i++j),H,a3!,L!,q⟩) hz
def uI{x:V}(r:Bc [x] us):∃u,us=[u]/\Bu x u:=by
 cases r with
 |cons r1 r2=>cases r2;exact⟨_,rfl,r1⟩
def b2r{x y:V}(r:Bc [x,y] us):∃u w',us=[u,w']/\Bu x u/\Bu y w':=by
 cases r with
 |cons r1 r2=>
  cases r2 with
  |cons r3 r4=>cases r4;exact⟨_,_,rfl,r1,r3⟩
def c3i:Kj X s3_ s4_:=by intro h1 s Z H xs us Q I r h;obtain⟨i,rfl,q⟩:=h;obtain⟨u,rfl,t,rfl⟩:=uI r;exact call_abs_int λu tk=>⟨.int iX!,H,a3!,L!,q⟩
def c3g:Kj X s5_ s7!:=by intro h1 s Z H xs us Q I r h;obtain⟨x,rfl,hz,q⟩:=h;obtain⟨u,rfl,t,rfl⟩:=uI r;exact ord_of_one hz iG!
def AX(K:yS!)(x:V)(H:Hp)(n:Nat):Prop:=
 match x with
 |.str y=>cy!<=sizeLine/\n=cy!
 |.byt y=>y.size<=sizeLine/\n=y.size
 |.ref p=>(∃xs,Fz K H p xs/\n=m_)\/∃xs,Gf K H p xs/\n=m_
 |_=>False
def cR:Kj X s9! (λxs H Q=>∃x n,xs=[x]/\AX X.K x H n/\Q gC! H):=by
 intro h1 s Z H xs us Q I r h;obtain⟨x,n,rfl,e,q⟩:=h;obtain⟨u,rfl,rx⟩:=uI r;have hl:=tQ;have hs:sizeLine=16777216:=JV;cases x with
 |str y=>
  show"!@";obtain⟨hy,e'⟩:cy!<=sizeLine/\n=cy!:=e;subst e';exact len_str a! iG!
 |byt y=>
  show"!@";obtain⟨hy,e'⟩:y.size<=sizeLine/\n=y.size:=e;subst e';exact W.len_bytes a! iG!
 |ref p=>
  cases rx;have e':(∃xs,Fz X.K H p xs/\n=m_)\/∃xs,Gf X.K H p xs/\n=m_:=e;obtain⟨xs,J,e'⟩|⟨xs,J,e'⟩:=e'
  .subst e';obtain⟨its,r',pl,hz⟩:=I.list J;have ap:=iX_;exact Calls.call_len_list pl.isList iW! s9_
  .subst e';obtain⟨its,r',pl,hz⟩:=I.tuple J;have ap:=iX_;exact len_tuple pl iW! s9_
 |_=>exact(s1!).elim
end
end L2
namespace L2
open PySem PySem.Spec PyProof.Rows
structure Vl(h:Heap)(x dx C:x7!)(mA:z!):Prop where
 obj:h.get? x=some lR_
 ns:h.Ns1 dx mA
 ne:dx≠x
def b7c{h:Heap}{dx:x7!}{mA:z!}(n:h.Ns1 dx mA):∃od,h.get? dx=some od/\∀name,W.lookIn name od=some (mA name):=by
 obtain⟨o,es,ep,ho,hd,hk,_,hm⟩:=n;refine⟨o,ho,λname=>?_⟩;have e:=hm name;unfold nsFind findBy at e;rw[<-Array.find?_toList]at e;unfold W.lookIn;rw[hd];show"#.";split
 .rename_i y q;rw[q]at e;exact congrArg some e
 .rename_i q;rw[q]at e;have a:es.toList.any (·.refKey)=false:=by
   rw[List.any_eq_false];intro y hy;obtain⟨z,t,YM⟩:=hk y (Array.mem_toList_iff.mp hy);simp[DictEntry.refKey,YM]
  have a':¬es.toList.any (·.refKey)=true:=by rw[a];exact IN
  rw[HP a'];exact congrArg some e
def Vl.look{h:Heap}{x dx C:x7!}{mA:z!}(I:Vl h x dx C mA):∃od,W.InstAt h x lR_ C (some od)/\∀name,W.lookIn name od=some (mA name):=
 let⟨od,ho,hl⟩:=b7c I.ns
 ⟨od,⟨I.obj,rfl,rfl,ho⟩,hl⟩
section
variable{prog:yp!}{w:xV!}{A:x6!}{E:Value->Shared->Prop}{s:yR!}{K:yS!}{x dx C f:x7!}{mA:Str->Option Value}{name:Str}{v:x5!}
def c6b{expr:Bool}{Q:q_}(X:iY!)(I:m5_)(hg:td!)(hh:td_)
  (ha:W.findIn K ay_ name=some none)(hv:mA name=some v)(YN:W.handedIn v=true)(h:Q v {s with toks:=s.toks+1}):
  wpAny r_ A (getAttr f6_ name expr) Q E s:=by
 show"#>";exact W.get_value X af (m6_).1 (W.findObj_own hh ha rfl (by rw[hl,hv])) YN h
def c2c{pl:dZ_}{Q:tf_}(X:iY!)(I:m5_)(hg:td!)
  (hf:W.findIn K ay_ name=some e3!)(ht:m7_)(hv:mA name=none)(h:Q (.ref f,[.ref x]) s):
  wpAny r_ A (getMethod f6_ name pl) Q E s:=by
 show"#>";exact W.method_fn X af (m6_).1 (m6_).2 hf (NE.mp ht) (by show(W.lookIn name od).map (·.isSome)=some false;rw[hl,hv];rfl) h
def c4a{ns:q!}{Q:cZ!}(X:iY!)(I:m5_)
  (hs:W.findIn K ay_ "__setattr__"=some tg_)(hp:W.plainOver K C=true)(ht:W.takerIn K C name=some none)(hh:td_)
  (hw:PySem.Within mA ns)(hsz:th!)
  (h:∀h',Vl h' x dx C (λy=>if y=name then some v else mA y)->Heap.SameBut dx s.heap h'->Q () {s with heap:=h',toks:=s.toks+2}):
  wpAny r_ A (setAttr f6_ name v) Q E s:=by
 show"#>";refine W.set_plain X af hs (W.osa_open (s:=m8!) (r:=none) X af hp ht λb=>?_);obtain⟨cd,hc,j3⟩:=W.any_some hh;have J:s.heap.get? x=some ⟨.ref C,some dx,.plain,#[]⟩:=I.obj;refine HI (HK (HI (HI (wpAny_loadPart J (HI (W.Looks.here (s:=m8!) (W.looks_clsIn X hc) ?_))))));rw[j3];refine HK (a:=some dx) (HI (HK gD!));refine wpAny_nsSet1 (s:=m8!) I.ns λh' iq bq=>?_;obtain⟨oD,esD,epD,yp,yq,YO⟩:=iq.count (PySem.Within.cons name v hw);refine HI (wpAny_lookBehind yp (by rw[yq];exact pastItsLine_dict (JB YO (by rw[IE];omega))) ?_);exact HK (h _ ⟨(bq.2 _ (HR I.ne)).trans I.obj,iq,I.ne⟩ bq)
def c1e{R:tj_}{kw:d0!}(X:iY!)(hm:tk!)
  (hi:tk_)(hf:W.typeIn K aj_=some (.type "function"))
  (h:codeAny r_ (A.under (.builtin "type.__call__" ⟨.ref C::vs,kw⟩)) (.call aj_ ⟨.ref ag_::vs,kw⟩) (W.InitBack ag_ R)
   {s with heap:=(e3_).push iZ!}):
  codeAny r_ A (.call ay_ ⟨vs,kw⟩) R s:=by
 obtain⟨hh,g,d,t,os⟩:=s;exact W.make_core (W.makes_of X hm) (W.looks_findIn X hi) (λself=>W.bind_fn X self hf) G! h
end
def Li(f:Str)(v:V):List dG_->List dG_
 |[]=>[(f,v)]
 |(g,x)::r=>if g=f then(g,v)::r else(g,x)::Li f v r
def uQ(f g:Str)(v:V):∀fs:List dG_,(i0!).lookup g=if g=f then some v else fs.lookup g
 |[]=>by
  show List.lookup g [(f,v)]=_;by_cases h:g=f
  .have hb:(g==f)=true:=NE.mpr h;simp only[List.lookup,hb,HY h]
  .have hb:(g==f)=false:=KI.mpr h;simp only[List.lookup,hb,HP h]
 |(k,x)::r=>by
  have ih:=uQ f g v r;rw[m9_];by_cases hk:k=f
  .rw[aP!];by_cases h:g=k
   .have hb:(g==k)=true:=NE.mpr h;simp only[List.lookup,hb,HY (h.trans hk)]
   .have hb:(g==k)=false:=KI.mpr h;simp only[List.lookup,hb,HP (λe:g=f=>h (e.trans hk.symm))]
  .rw[aF_];by_cases h:g=k
   .have hb:(g==k)=true:=NE.mpr h;simp only[List.lookup,hb,HP (λe:g=f=>hk (h.symm.trans e))]
   .have hb:(g==k)=false:=KI.mpr h;simp only[List.lookup,hb];exact ih
def tR(f:Str)(v:V):∀fs:List dG_,f∈(i0!).map c_/\∀g,g∈fs.map c_->g∈(i0!).map c_
 |[]=>⟨by simp[Li],λg h=>by simp at h⟩
 |(k,x)::r=>by
  obtain⟨i1,i2⟩:=tR f v r;rw[m9_];by_cases hk:k=f
  .rw[aP!];subst hk;exact⟨H!,λg h=>by simpa using h⟩
  .rw[aF_];refine⟨?_,λg h=>?_⟩
   .rw[HV];exact HL _ i1
   .rw[HV]at h ⊢;obtain e|e:=HN.mp h
    .exact HN.mpr (.inl e)
    .exact HL _ (i2 g e)
def uS(f:Str)(v:V):∀fs:List dG_,(i0!).length<=bu_+1
 |[]=>by simp[Li]
 |(k,x)::r=>by
  have ih:=uS f v r;rw[m9_];by_cases hk:k=f
  .rw[aP!,IE,IE];omega
  .rw[aF_,IE,IE];omega
def Ou.some_of{v:V}{o:na_}(r:Ou dJ! o):∃u,o=some u/\Bu v u:=by
 cases o with
 |none=>exact(i0_).elim
 |some u=>exact⟨u,rfl,r⟩
def Ou.none_of{o:na_}(r:Ou none o):o=none:=by
 cases o with
 |none=>rfl
 |some u=>exact(i0_).elim
def b7i{v:V}{u:x5!}(r:bw_):W.handedIn u=true:=by
 cases v with
 |non=>cases (show u=dF! from r);rfl
 |bl b=>cases (show u=Value.bool b from r);rfl
 |int i=>obtain⟨t,e⟩:=tq!;cases e;rfl
 |str x=>obtain⟨t,e⟩:=tq_;cases e;rfl
 |byt b=>obtain⟨t,e⟩:=(show∃t,u=Value.bytes b t from r);cases e;rfl
 |flt b=>obtain⟨t,e⟩:=(show∃t,u=Value.float b t from r);cases e;rfl
 |ref a=>cases (show u=Value.ref a from r);rfl
 |ty n=>cases (show u=Value.type n from r);rfl
section
variable{P:yp!}{w:xV!}{H H':Hp}{h h':Heap}{a C dx:x7!}{fs vw:List (Str×V)}
def a5a(hok:bv!)(e:i1_):∃mA,Vl h a dx C mA/\q3_/\PySem.Within mA lS_/\bu_<=1000/\H dx=some f6!:=by obtain⟨d,z,ne,ob,mA,n,r,q⟩:=(show Fg P w H h a e4! from hok a _ e);exact⟨mA,⟨ob,n,ne⟩,r,q,z,d⟩
end
structure Uu(K:yS!)(C:x7!):Prop where
 pg:W.plainGet K C Str.empty=true
 hd:W.hasDictIn K C=true
 po:W.plainOver K C=true
 sa:W.findIn K ay_ "__setattr__"=some tg_
def Uu.get{K:yS!}{C:x7!}(c:Uu K C)(f:Str):W.plainGet K C f=true:=c.pg
def Ef(K:yS!)(C:x7!)(f:Str):Prop:=W.findIn K ay_ f=some none
def Ef.taker{K:yS!}{C:x7!}{f:Str}(n:Ef K C f):W.takerIn K C f=some none:=by unfold W.takerIn;rw[show W.findIn K ay_ f=some none from n];rfl
structure Wr(K:yS!)(C:x7!)(m:Str)(f:x7!):Prop where
 at_:W.findIn K ay_ m=some e3!
 fn:W.isFn K aj_=true
 kp:W.keepIn K aj_=true
section
variable{X:Cx}{h1:List (Addr×Obj)}{Z:St}{H:Hp}{s:yR!}{a C dx:x7!}{fs:List (Str×V)}{f:Str}{v:V}{A:x6!}{E:Value->Shared->Prop}
def b1w{b:Bool}{Q:q_}(I:d_)(e:i1_)(c:d0_)(n:Ef X.K C f)(l:fs.lookup f=some v)
  (h:∀u s',Inv X h1 Z H s'->Bu v u->Q u s'):wpAny e_ A (getAttr ag! f b) Q E s:=by
 obtain⟨mA,O,r,_,_,_⟩:=a5a I.hok e;obtain⟨u,hu,ru⟩:=Ou.some_of (v:=v) (o:=mA f) (by rw[<-l];exact r f);exact c6b I.kIn O (c.get f) c.hd n hu (b7i ru) (h u _ nb! ru)
def pL{m:Str}{pl:dZ_}{Q:tf_}(I:d_)(e:i1_)(c:d0_)(k:Wr X.K C m g)(l:fs.lookup m=none)
  (h:Q (.ref g,bl!) s):wpAny e_ A (getMethod ag! m pl) Q E s:=by
 obtain⟨mA,O,r,_,_,_⟩:=a5a I.hok e;have hn:mA m=none:=Ou.none_of (by rw[<-l];exact r m);exact c2c I.kIn O (c.get m) k.at_ k.fn hn h
def b0f{y:V}{u:x5!}{Q:cZ!}(I:d_)(e:i1_)(c:d0_)(n:Ef X.K C f)(hl:bu_<1000)(ry:Bu y u)
  (h:∀s',Inv X h1 Z (upd H a tv!) s'->Q () s'):wpAny e_ A (setAttr ag! f u) Q E s:=by
 obtain⟨mA,O,r,wi,_,ho⟩:=a5a I.hok e;have hz:(lS_).length<=sizeLine:=by rw[IK,JV];omega
 refine c4a I.kIn O c.sa c.po n.taker c.hd wi hz λh' O' sb=>h _ ?_;have hd:∃o,h'.get? dx=some o:=let⟨o,_,_,e',_⟩:=O'.ns;⟨o,e'⟩;refine I.write (x:=a) (e:=dx) tv_ (.inr ho) (λb q hb z=>(sb.2 b hb).trans z) hd ?_;refine⟨by rw[bD O.ne];exact ho,?_,O.ne,O'.obj,_,O'.ns,λg=>?_,λg hg=>?_⟩
 .have:=uS f y fs;omega
 .show Ou ((Li f y fs).lookup g) tw_;rw[uQ];by_cases q:g=f
  .rw[HY q,HY q];exact ry
  .rw[HP q,HP q];exact r g
 .by_cases q:g=f
  .rw[q];exact(tR f y fs).1
  .refine(tR f y fs).2 g (wi g λz=>hg ?_);show tw_=none;rw[HP q];exact z
def Inv.made(I:d_):Inv X h1 Z (upd (upd H s.heap.objs.size (.own ag_)) ag_ (.ins C s.heap.objs.size []))
  {s with heap:=(e3_).push iZ!}:=by
 have e1:(e3_).get? o_=some iZ_:=IP s.heap rfl;have e2:((e3_).push iZ!).get? ag_=some iZ!:=by
  have:=IP e3_ (o:=W.instObj C o_) rfl;rwa[OE]at this
 have e3:(e3_).Ns s.heap.objs.size (λ_=>none):=⟨iZ_,#[],_,e1,rfl,(λe he=>absurd he d!),e4_⟩;have I1:=I.laid (a:=o_) (o:=.own ag_) (h':=s.heap.push iZ_) (t':=s.toks) tx_ y! ⟨_,e1⟩;refine I1.laid (a:=o_+1) (o:=.ins C s.heap.objs.size []) (t':=s.toks) tx_ (PD (OE _ _)) ?_;have ne:o_≠o_+1:=JG (OM _);refine⟨by rw[bD ne,cC],JS _,ne,e2,λ_=>none,(Heap.Ns1.of_empty e3).at λo q=>HM _ q,λ_=>i2!,λy hy=>absurd rfl hy⟩
def c6y{prog:yp!}{w:xV!}{e:Expr}{f:Str}{pos:Pos}{s:yR!}{Q:q_}(hb:attributeBase e f env (eval e env)=eval e env)
  (h:wpAny r_ A (eval e env) (λo al=>wpAny r_ A (getAttr o f true) Q E al) E s):wpAny r_ A (eval tz! env) Q E s:=
 Attribute_any_ h (by rw[arm_eval_Attribute,hb])
end
def EL(K:yS!)(ta:TE)(f:Str):TE:=λZ H Q=>ta Z H λx H1=>∃a C dx fs v,x=.ref a/\H1 a=some e4!/\Uu K C/\Ef K C f/\fs.lookup f=some v/\Q v H1
def EQ(K:yS!)(ta tv:TE)(f:Str):TS:=λD Z H=>tv Z H λy H1=>ta Z H1 λx H2=>∃a C dx fs,x=.ref a/\H2 a=some e4!/\Uu K C/\Ef K C f/\bu_<1000/\
 D.nx Z (upd H2 a tv!)
section
variable{X:Cx}{o e value:Expr}{f:Str}{pos ip tpos:Pos}{ta tv:TE}
def c8x(he:PE X e ta)(hb:attributeBase e f X.env eO_=eval e X.env):PE X tz! (EL X.K ta f):=by intro h1 s Z H Q I h;refine c6y hb (dM c5_ λu s1 ⟨x,H1,I1,rx,a,C,dx,fs,v,ex,ea,c,n,l,q⟩=>?_);subst ex;obtain rfl:u=Value.ref a:=rx;exact b1w I1 ea c n l λu' s2 I2 ru=>⟨v,H1,I2,ru,q⟩
def c8r(ha:nc_)(hv:PE X value tv)(hs:swapsWith value (some (.Attribute o f ip)) pos.line X.env=pure false):PS X (.Assign [.Attribute o f ip] value pos) (EQ X.K ta tv f):=by intro h1 s Z H D I h;refine plainObj_wpAny_Assign_Attribute (dM (hv h1 s Z H _ I h) λu s1 ⟨y,H1,I1,ry,q⟩=>dM (ha h1 s1 Z H1 _ I1 q) λov s2 ⟨x,H2,I2,rx,a,C,dx,fs,ex,ea,c,n,l,q2⟩=>?_) hs;subst ex;obtain rfl:ov=Value.ref a:=rx;exact b0f I2 ea c n l ry λs3 I3=>⟨Z,_,I3,q2⟩
def c7r{pl:dZ_}{m:Str}{aj:Pos}{h1:o!}{s:yR!}{Z:St}{H:Hp}{Q:q_}{te:TE}(he:cv!)(I:d_)
  (h:te Z H λx H1=>∃a C dx fs g,x=.ref a/\H1 a=some e4!/\Uu X.K C/\Wr X.K C m g/\fs.lookup m=none/\
   ∀s1,Inv X h1 Z H1 s1->wpAny e_ X.A (callWith pos (.ref g) bl! tB! e5!) Q X.xe s1)
  (ht:eval tD! X.env=(do
   let ov <-eval e X.env
   standAt gE_
   let(f,first) <-holding [ov] gF!
   callWith pos f first tB! e5!)):
  wpAny e_ X.A (eval tD! X.env) Q X.xe s:=by
 refine W.methodCall_KW (pl:=pl) (dM c5_ λu s1 ⟨x,H1,I1,rx,a,C,dx,fs,g,ex,ea,c,k,l,q⟩=>?_) ht;subst ex;obtain rfl:u=Value.ref a:=rx;exact pL I1 ea c k l (q s1 I1)
end
end L2
namespace L2
open PySem PySem.Spec PyProof.Rows
structure Al(k:Nat)(A:x6!):Prop where
 hd:A.handled=none
 dp:A.depth+3*k+5<recursionLimit
 un:A.units+16*k+200<cLine
def Al.mono{j k:Nat}{A:x6!}(r:gF_)(h:j<=k):Al j A:=⟨r.hd,by have:=r.dp;omega,by have:=r.un;omega⟩
def Al.deeper{k:Nat}{A:x6!}(r:Al V! A)(env:Env):Al k (A.deeper env):=
 ⟨r.hd,by have:=r.dp;show A.depth+1+3*k+5<_;omega,by have:=r.un;show A.units+3+16*k+200<_;omega⟩
def Al.in1{k:Nat}{A:x6!}(r:Al V! A):Al k A.in1:=
 ⟨r.hd,by have:=r.dp;show A.depth+3*k+5<_;omega,by have:=r.un;show A.units+1+16*k+200<_;omega⟩
def b1p{A:x6!}{C:x7!}{kw:d0!}:(i4!).depth=A.depth+1:=by first|rfl|simp[Around.under,Code.weight,Code.isCreation,Code.isGuard,Code.isCaller,Code.frames,Code.isFrame,guardIds]
def b1o{A:x6!}{C:x7!}{kw:d0!}:(i4!).units=A.units+1:=by first|rfl|simp[Around.under,Code.cUnits,Code.frames,Code.isFrame]
def Al.make{k:Nat}{A:x6!}(r:Al V! A)(C:x7!)(us:i_)(kw:d0!):Al k i4!:=
 ⟨r.hd,by have:=r.dp;rw[b1p];omega,by have:=r.un;rw[b1o];omega⟩
def Al.depth{k:Nat}{A:x6!}(r:gF_):A.depth<recursionLimit:=by have:=r.dp;omega
def Al.units{k:Nat}{A:x6!}(r:gF_):A.units+64<cLine:=by have:=r.un;omega
def Al.units0{k:Nat}{A:x6!}(r:gF_):A.units<cLine:=by have:=r.un;omega
def AA:TA:=λ_ H Q=>Q [] H
def BO(ta:TE)(tr:TA):TA:=λZ H Q=>ta Z H λx H1=>tr Z H1 λxs H2=>Q e5_ H2
section
variable{X:Cx}{e:Expr}{es:List Expr}{te:TE}{t:TA}{pos:Pos}
def gQ:PA X [] AA:=λ_ _ _ _ H Q I h=>OP ⟨[],H,I,.nil,h⟩
def dZ(ha:cv!)(hr:gG_)(hs:az!:=by rfl):PA X aO! (BO te t):=by intro pos h1 s Z H Q I h;rw[hs];show wpAny _ _ (spliced (e6!::backTo pos me_)) _ _ s;refine ML (dM b2! λu s1 ⟨x,H1,I1,r1,q1⟩=>?_);exact dM (hr pos h1 s1 Z H1 _ I1 q1) λus s2 ⟨xs,H2,I2,r2,q2⟩=>⟨x::xs,H2,I2,.cons r1 r2,q2⟩
def ED(t:TA):TE:=λZ H Q=>t Z H λxs H1=>m_<=sizeLine/\∀p,H1 p=none->Q da! (upd H1 p bI!)
def EI(t:TA):TE:=λZ H Q=>t Z H λxs H1=>m_<=sizeLine/\∀p,H1 p=none->Q da! (upd H1 p T!)
def b9t {x1}(h:gG_):PE X tE_ (ED t):=by intro h1 s Z H Q I hq;refine wpAny_Tuple_spliced tG!;have hf:H1 D!=none:=I1.hok.fresh y!;refine⟨.ref D!,upd H1 s1.heap.objs.size bI!,tH!,rfl,q _ hf⟩;exact⟨z,us,r,⟨_,dS!,rfl,_,rfl⟩⟩
def xC(h:gG_):PE X i5! (EI t):=by intro h1 s Z H Q I hq;refine wpAny_List_spliced tG!;have hf:H1 D!=none:=I1.hok.fresh y!;refine⟨.ref D!,upd H1 s1.heap.objs.size T!,tH!,rfl,q _ hf⟩;exact⟨z,us,0,r,dS!⟩
end
abbrev Sp:=List V->Hp->VK->XK->Prop
abbrev Wt:=List Env->Hp->Shared->XK->Value->Shared->Prop
structure Rs(P:yp!)(w:xV!)(K:yS!)(mg:z!)(base:Heap)(A:x6!)(outer:ax!)(s:yR!)(H:Hp):Prop where
 frames:A.frames=some outer
 mod:Mod K mg base
 bs:∀b o,base.get? b=some o->s.heap.get? b=some o/\H b=none
 bsz:base.objs.size<=o_
 funs:s.heap.FunFrames base outer
 frf:∀b∈frs outer,H b=none
 hok:Ov P w H s.heap
 bare:AllBare s.gens
def CE(outer:ax!)(P:yp!)(w:xV!)(H:Hp)(s:yR!)(Q:VK)(u:x5!)(s':yR!):Prop:=
 ∃v H',s'.os=s.os/\AllBare s'.gens/\Un (frs outer) [] H H' s.heap s'.heap/\Ov P w H' s'.heap/\Bu v u/\Q v H'
def CR(CX:Wt)(outer:ax!)(P:yp!)(w:xV!)(H:Hp)(s:yR!)(Q:VK)(E:XK)(r:Result)(s':yR!):Prop:=
 match r with
 |.ok (.ret u)=>CE outer P w H s Q u s'
 |.ok _=>False
 |.error e=>CX outer H s E e s'
structure Fq(P:yp!)(w:xV!)(K:yS!)(mg:z!)(base:Heap)(CX:Wt)(k:Nat)(f:x7!)(fd:FuncData)(ps:q!)(sp:Sp):Prop where
 len:∀vs H Q E,sp vs H Q E->bB!=V_
 run:∀(A:x6!) (outer:ax!) (s:yR!) (H:Hp) (args:Args) (us:i_) (vs:n_) (Q:VK) (E:XK),Al k A->Rs P w K mg base A outer s H->BindsTo s fd args da_->Bc vs us->sp vs H Q E->
  codeAny G_ A (.call aj_ args) (CR CX outer P w H s Q E) s
def Fq.mono{P:yp!}{w:xV!}{K:yS!}{mg:z!}{base:Heap}{CX:Wt}{j k:Nat}{f:x7!}{fd:FuncData}{ps:q!}{sp:Sp}(F:Fq P w K mg base CX j f fd ps sp)(h:j<=k):
  Fq P w K mg base CX k f fd ps sp:=⟨F.len,λA outer s H args us vs Q E hr=>F.run A outer s H args us vs Q E (hr.mono h)⟩
def Fq.imp{P:yp!}{w:xV!}{K:yS!}{mg:z!}{base:Heap}{CX:Wt}{k:Nat}{f:x7!}{fd:FuncData}{ps:q!}{sp UJ:Sp}(F:Fq P w K mg base CX k f fd ps sp)
  (h:∀vs H Q E,UJ vs H Q E->sp vs H Q E):Fq P w K mg base CX k f fd ps UJ:=
 ⟨λvs H Q E q=>F.len vs H Q E (h _ _ _ _ q),λA outer s H args us vs Q E hr he hb hv hs=>F.run A outer s H args us vs Q E hr he hb hv (h _ _ _ _ hs)⟩
def Rs.make{P:yp!}{w:xV!}{K:yS!}{mg:z!}{base:Heap}{A:x6!}{outer:ax!}{s:yR!}{H:Hp}(e:ng_)(C:x7!)(us:i_)(kw:d0!):
  Rs P w K mg base i4! outer s H:=⟨by first|exact e.frames|(simpa[Around.under,Code.envs,Code.isFrame,pushEnvs]using e.frames),e.mod,e.bs,e.bsz,e.funs,e.frf,e.hok,e.bare⟩
def Rs.in1{P:yp!}{w:xV!}{K:yS!}{mg:z!}{base:Heap}{A:x6!}{outer:ax!}{s:yR!}{H:Hp}(e:ng_):
  Rs P w K mg base A.in1 outer s H:=⟨e.frames,e.mod,e.bs,e.bsz,e.funs,e.frf,e.hok,e.bare⟩
section
variable{X:Cx}{h1:List (Addr×Obj)}{Z:St}{H:Hp}{s s':yR!}
def Inv.env0(I:d_):Rs X.prog X.w X.K X.mg X.base X.A X.stack s H:=
 ⟨I.ok.frames,I.ok.mod,I.bs,JB I.ok.bsz I.sz,I.stack,I.stkFree,I.hok,I.bare⟩
def Inv.after{Q:VK}{u:x5!}(I:d_)(h:CE X.stack X.prog X.w H s Q u s'):EP X h1 Z Q u s':=by obtain⟨v,H',os,bare,un,hok,r,q⟩:=h;obtain⟨hh,g,d,t,YQ⟩:=s';obtain rfl:YQ=s.os:=os;exact⟨v,H',I.call (h':=hh) (g':=g) (d':=d) (t':=t) (ch:=[]) un hok bare (λb z=>absurd z d!),r,q⟩
end
def BP(sp:Sp)(dvs:n_)(E:XK)(t:TA):TE:=λZ H Q=>t Z H λvs H1=>sp db! H1 Q E
def Zl(C:x7!)(m:Str)(sp:Sp)(dvs:n_)(E:XK)(ta:TE)(t:TA):TE:=λZ H Q=>ta Z H λx H1=>∃a dx fs,x=.ref a/\H1 a=some e4!/\fs.lookup m=none/\
 t Z H1 λvs H2=>sp (x::db!) H2 Q E
def Zm(C:x7!)(sp:Sp)(dvs:n_)(E:XK)(t:TA):TE:=λZ H Q=>t Z H λvs H1=>∀x dx,H1 x=none->H1 dx=none->dx≠x->
 sp (.ref x::db!) ni_ tM_ E
def Fc(K:yS!)(fd:FuncData)(ps:q!)(ds:i_):Prop:=
 ∀(s:yR!) (us:i_),K.In s.heap->(e6_).length=V_->BindsTo s fd db_ (ps.zip e6_)
def Fc.all{K:yS!}{fd:FuncData}{ps:q!}(h:∀us:List Value,aw!=V_->bindArgs fd db_=pure da_):Fc K fd ps []:=λs us _ hl=>by
 rw[IR]at hl ⊢;exact .of_eq (h us hl)
def Mj(CX:Wt)(X:Cx)(E:XK):Prop:=∀(h1:o!) (Z:St) (H:Hp) (s:yR!) (e:x5!) (s':yR!),Inv X h1 Z H s->CX X.stack H s E e s'->X.xe e s'
section
variable{X:Cx}{CX:Wt}{k:Nat}{f C:x7!}{fd:FuncData}{ps:List Str}{sp:Sp}{dvs:List V}{ds:List Value}{E:XK}{x m:Str}{p pos aj:Pos}{e o:Expr}{es:List Expr}{ta:TE}{t:TA}
def a2z{h1:o!}{Z:St}{H:Hp}{s:yR!}{Q:VK}(F:d1_)(hr:b6!)(hb:d2!)(hd:d2_)(J:d3!)
  (I:d_)(r:eO!)(h:sp db! H Q E):wpAny e_ X.A (call aj_ us) aM! X.xe s:=by
 have r2:Bc db! e6_:=r.append hd;have hl:(e6_).length=V_:=by rw[<-r2.length];exact F.len _ _ _ _ h
 refine wpAny_call (RB (F.run X.A X.stack s H db_ e6_ db! Q E hr I.env0 (hb s us I.kIn hl) r2 h) λr s' hq=>?_);cases r with
 |error e=>exact J h1 Z H s e s' I hq
 |ok fl=>
  cases fl with
  |ret u=>exact I.after hq
  |next=>exact False.elim hq
  |brk=>exact False.elim hq
  |cont=>exact False.elim hq
def b3y(F:d1_)(hr:b6!)(hg:Y_)(hm:X.mg x=some aj_)(hk:W.keepIn X.K aj_=true)(hb:d2!)(hd:d2_)(J:d3!)
  (ha:e7!)(bg:F_:=by decide)(he:az!:=by rfl)(a7:a6_:=by rfl):
  PE X bB_ (BP sp dvs E t):=by
 show"!K";refine LJ nj_;refine W.callWith_K (h₀:=X.base) I.ok.mod.kin hk tP_ he a7;exact a2z F hr hb hd J I1 r q
def c4w{pl:dZ_}(he:nc_)(c:d0_)(hm:Wr X.K C m f)(F:d1_)(hr:b6!)(hb:d2!)(hd:d2_)(J:d3!)(ha:e7!)
  (b9:az!:=by rfl)(a7:a6_:=by rfl)
  (ht:eval i7! X.env=(do
   let ov <-eval o X.env
   standAt gE_
   let(f,first) <-holding [ov] gF!
   callWith pos f first tT! e5!):=by rfl):
  PE X i7! (Zl C m sp dvs E ta t):=by
 show"!;";refine W.callWith_K (first:=bl!) (h₀:=X.base) I.ok.mod.kin hm.kp (dM (ha pos h1 s1 Z H1 _ I1 q) λus s2 ⟨vs,H2,I2,r,q2⟩=>tT_) b9 a7;exact a2z (us:=.ref a::us) (vs:=.ref a::vs) F hr hb hd J I2 (.cons rfl r) q2
def b9z{pl:dZ_}(he:nc_)(c:d0_)(hm:Wr X.K C m f)(F:d1_)(hr:b6!)(hb:d2!)(hd:d2_)(J:d3!)
  (ht:eval i7_ X.env=(do
   let ov <-eval o X.env
   standAt gE_
   let(f,first) <-holding [ov] gF!
   callWith pos f first nl! e5!):=by rfl):
  PE X i7_ (Zl C m sp dvs E ta AA):=by
 show"!;";exact W.callWith_K0 (first:=bl!) I1.kIn hm.kp (a2z (us:=bl!) (vs:=bl!) F hr hb hd J I1 tU_ q)
structure Mk(K:yS!)(C f:x7!):Prop where
 makes:W.makesIn K C=true
 init:W.findIn K ay_ "__init__"=some e3!
 fn:W.isFn K aj_=true
 kp:W.keepIn K ay_=true
def a6o{h1:o!}{Z:St}{H:Hp}{s:yR!}{Q:VK}(M:nl_)(F:d1_)(hr:gH_)(hb:d2!)(hd:d2_)
  (J:d3!)(I:d_)(r:eO!)
  (h:∀x dx,H x=none->H dx=none->dx≠x->sp (.ref x::db!) (upd (upd H dx ij_) x ni!) tM_ E):
  wpAny e_ X.A (call ay_ us) aM! X.xe s:=by
 have hq:=h ag_ s.heap.objs.size tW! gI! (JG (OM _));have I2:=Inv.made (C:=C) I;have r2:Bc (V.ref ag_::db!) tX!:=.cons rfl (r.append hd);have hl:(Value.ref ag_::us++ds).length=V_:=by
  have e:=r2.length;rw[F.len _ _ _ _ hq]at e;exact e.symm
 refine wpAny_call (c1e (f:=f) I.kIn M.makes M.init (NE.mp M.fn) (RB (F.run _ X.stack _ _ ⟨Value.ref ag_::us,[]⟩ tX! _ _ E (hr.make C us [])
  (I2.env0.make C us []) (hb _ (Value.ref ag_::us) I2.kIn hl) r2 hq) λr s' a9=>?_))
 cases r with
 |error e=>exact J h1 Z _ _ e s' I2 a9
 |ok fl=>
  cases fl with
  |ret u=>
   obtain⟨v,H',I3,rv,ev,q3⟩:=I2.after a9;subst ev;exact⟨rv,⟨V.ref ag_,H',I3,rfl,q3⟩⟩
  |next=>exact False.elim a9
  |brk=>exact False.elim a9
  |cont=>exact False.elim a9
def c4x(M:nl_)(F:d1_)(hr:gH_)(hg:Y_)(hm:tY_)(hb:d2!)(hd:d2_)(J:d3!)
  (ha:e7!)(bg:F_:=by decide)(he:az!:=by rfl)(a7:a6_:=by rfl):
  PE X bB_ (Zm C sp dvs E t):=by
 show"!K";refine LJ nj_;refine W.callWith_K (h₀:=X.base) I.ok.mod.kin M.kp tP_ he a7;exact a6o M F hr hb hd J I1 r q
def c0a(M:nl_)(F:d1_)(hr:gH_)(hg:Y_)(hm:tY_)(hb:d2!)(hd:d2_)(J:d3!)
  (bg:F_:=by decide):PE X tZ! (Zm C sp dvs E AA):=by
 show"!K";refine LJ nj_;exact W.callWith_K0 I.kIn M.kp (a6o (us:=[]) M F hr hb hd J I .nil h)
end
structure Aj(N P:q!)(sc:Scope):Prop where
 kind:sc.kind=.function
 co:sc.isCoroutine=false
 gen:sc.isGenerator=false
 nd:N.Nodup
 pre:N.take P.length=P
 par:∀x∈P,sc.names.lookup x=some .local\/sc.names.lookup x=some .cell
 nofree:∀y∈sc.names,y.2≠.free
def a1y{kindOf:i8!}{x:Str}:∀{binds:d0!} {m:z!},tZ_->bindL kindOf binds m x=m x
 |[],_,_=>rfl
 |(n,v)::r,m,h=>by
  unfold bindL;rw[a1y λw hw=>h w (HL _ hw)];split
  .have:x≠n:=by rintro rfl;exact h v HQ
   simp[this]
  .rfl
def a2a{kindOf:i8!}{x:Str}:∀{binds:d0!} {m:z!},tZ_->bindC kindOf binds m x=m x
 |[],_,_=>rfl
 |(n,v)::r,m,h=>by
  unfold bindC;rw[a2a λw hw=>h w (HL _ hw)];split
  .rfl
  .have:x≠n:=by rintro rfl;exact h v HQ
   simp[this]
def a1z{kindOf:i8!}{x:Str}{v:x5!}:∀{P:q!} {vs:i_} {i:Nat} {m:z!},P.Nodup->P[i]?=some x->vs[i]?=some v->kindOf x=some .local->
  bindL kindOf (P.zip vs) m x=some v
 |[],_,_,_,_,h,_,_=>by simp at h
 |_::_,[],_,_,_,_,h,_=>by simp at h
 |p::P,w::vs,0,m,nd,Y,L,hk=>by
  simp at Y L;subst Y;subst L;show bindL kindOf i8_ m p=_;unfold bindL;rw[a1y λv hv=>(i9!).1 (RT hv).1,aP!];simp
 |p::P,w::vs,i+1,m,nd,Y,L,hk=>by
  show bindL kindOf i8_ m x=_;unfold bindL;exact a1z (i:=i) (i9!).2 t1_ t2! hk
def a2b{kindOf:i8!}{x:Str}{v:x5!}:∀{P:q!} {vs:i_} {i:Nat} {m:z!},P.Nodup->P[i]?=some x->vs[i]?=some v->kindOf x≠some .local->
  bindC kindOf (P.zip vs) m x=some v
 |[],_,_,_,_,h,_,_=>by simp at h
 |_::_,[],_,_,_,_,h,_=>by simp at h
 |p::P,w::vs,0,m,nd,Y,L,hk=>by
  simp at Y L;subst Y;subst L;show bindC kindOf i8_ m p=_;unfold bindC;rw[a2a λv hv=>(i9!).1 (RT hv).1,aF_];simp
 |p::P,w::vs,i+1,m,nd,Y,L,hk=>by
  show bindC kindOf i8_ m x=_;unfold bindC;exact a2b (i:=i) (i9!).2 t1_ t2! hk
def Na(N:q!)(vs:n_):St:=vs.map some++List.replicate (i9_ - bB!) none
def Ph(CX:Wt)(P:yp!)(w:xV!)(K:yS!)(mg:z!)(base:Heap)(N:q!)(qual:Str)(scope:Scope)(f:x7!)(cd:x5!)(A:x6!)(outer:ax!)(s:yR!)(H:Hp)(E:XK):Cx where
 prog:=P
 w:=w
 K:=K
 mg:=mg
 base:=base
 A:=A.deeper gJ!
 N:=N
 s₀:=s
 H₀:=H
 env:=envOfC qual scope s.heap.objs.size f cd
 outer:=outer
 stack:=envOfC qual scope s.heap.objs.size f cd::outer
 ex:=[]
 calm:=true
 fn:=λ_=>true
 pn:=[]
 xe:=λe s'=>wpAny G_ (A.deeper gJ!) (leaving gJ! e) (λ_ yr=>CX outer H s E e yr) (λe' yr=>CX outer H s E e' yr) s'
def a9k{sc:Scope}{n:Nat}{x:Str}(h:sc.names.lookup x=some .cell):∃c,(cellsFrom n sc.names []).lookup x=some c:=by have q:=W.cellsFrom_some sc.names n [] iA_;exact PV.mp q
def b7f{CX:Wt}{P:yp!}{w:xV!}{K:yS!}{mg:z!}{base:Heap}{ps:q!}{scope:Scope}{f:x7!}{A:x6!}{outer:ax!}{s:yR!}{H:Hp}{E:XK}{vs:n_}
  (S:Aj N ps scope)(hd:dc!)(e0:ng_)(hl:bB!=V_)(r:eO!)
  (x:InCallC s s.heap.objs.size (bindL (gJ!).kindOf da_ λ_=>none) t3! (bindC (gJ!).kindOf da_ λ_=>none) s1):
  Inv t3_ [] gK! H s1:=by
 have a7:V_<=i9_:=by have:=congrArg List.length S.pre;rw[QG]at this;omega
 obtain⟨Y,tk,rfl,hk⟩:=x.done;have sn:∀b:Addr,b∉(t3_).ex:=λb z=>absurd t4_ d!;refine⟨⟨e0.mod,S.kind,rfl,rfl,IM _,λy z c Y L=>?_,λy hy=>?_,λy c _ h=>?_,λ_=>hd,Around.frames_deeper e0.frames,.inr bi_,t6!,e0.bs,e0.bsz,λb _ _=>sn b,t6!,e0.funs,e0.frf⟩,
  rfl,e0.bare,Un.kept hk,⟨_,x.toInCall.ns,λi y v Y L h3=>?_⟩,λy c h=>⟨_,x.cell y c h⟩,e0.hok.fresh y!,λy c h=>?_,λp hp=>absurd (show p∈([]:List eL_)from hp) d!,e0.hok.kept hk,?_⟩
 .exact name_of_addr x.apart (LL Y) (LL L)
 .have hy:scope.names.lookup y=some .cell\/scope.names.lookup y=some .free:=hy;obtain hy|hy:=hy
  .exact a9k hy
  .exact absurd rfl (S.nofree _ (LL hy))
 .exact MX t7_
 .have hi:i<bB!:=by
   unfold Na at L;by_cases hi:i<bB!
   .exact hi
   .rw[e7_]at L;rw[OB]at L;split at L<;>cases L
  have ha:vs[i]?=some v:=by
   unfold Na at L;rw[KA gK_,JC]at L;cases e:vs[i]? with
   |none=>rw[e]at L;cases L
   |some a=>rw[e]at L;cases L;rfl
  obtain⟨u,hu,rv⟩:=r.get ha;have hp:ps[i]?=some y:=by
   rw[<-S.pre,List.getElem?_take_of_lt a!];exact Y
  have UK:ps.Nodup:=by rw[<-S.pre];exact S.nd.sublist (List.take_sublist _ _)
  refine⟨u,rv,?_⟩;obtain k|k:=S.par y (NP hp)
  .exact .inl ⟨k,a1z UK hp hu k⟩
  .obtain⟨c,e⟩:=a9k (n:=o_+1) k;refine .inr ⟨.inl k,c,e,?_⟩;have q:=x.cell y c e;rw[a2b UK hp hu (by show scope.names.lookup y≠_;rw[k];decide)]at q;exact q
 .exact e0.hok.fresh (MX t7_)
 .unfold Na;show _=i9_;rw[IG,IK,NA];omega
def d3p{CX:Wt}{P:yp!}{w:xV!}{K:yS!}{mg:z!}{base:Heap}{k:Nat}{f:x7!}{name:Str}{params:Arguments}{body:b1_}{kV:x5!}{an od:a7_}
  {eh:b6_}{ps:q!}{sp:Sp}(lk:K.lookup f=some ⟨oc,od,.func t9_,eh⟩)(bz:jb!)(S:Aj N ps scope)
  (len:ua!)
  (p6:∀(A:x6!) (outer:ax!) (s:yR!) (H:Hp) (vs:n_) (Q:VK) (E:XK),Al k (A.deeper (envOfC qual scope s.heap.objs.size f ag))->sp vs H Q E->
   ∃t,Uq no! body t/\t {nx:=λ_ H'=>Q .non H',rt:=Q} gK! H):
  Fq P w K mg base CX V! f t9_ ps sp:=by
 refine⟨len,λA outer s H args us vs Q E hr e0 hb r jh=>?_⟩;have hl:=len _ _ _ _ jh;have KX:K.In s.heap:=e0.mod.kin.keeps λb o e=>(e0.bs b o e).1;have au:s.heap.NoLimit:=e0.mod.nolimit.keeps λb o e=>(e0.bs b o e).1;have cm:∀y∈ps.zip us,scope.names.lookup y.1=some .local\/(scope.names.lookup y.1=some .cell/\((t3!).lookup y.1).isSome=true):=λ⟨n,v⟩ hy=>by
  obtain q|q:=S.par n (RT hy).1
  .exact .inl q
  .exact .inr ⟨q,W.cellsFrom_some _ _ _ (.inl q)⟩
 refine codeAny_call_function hr.depth (KX _ _ lk) rfl S.co S.gen rfl (W.codeRec_of KX bz) (hb _ _ _ _ ?_);refine wpAny_newFunctionEnv_cells S.kind cm λenv he s1 x=>?_;subst he;refine⟨au.keeps x.toInCall.keep,codeAny_func ?_⟩;obtain⟨t,ht,hq⟩:=p6 A outer s H vs Q E (hr.deeper _) jh;have I:Inv no! [] gK! H s1:=b7f S hr.hd e0 hl r x;refine KL (ht [] s1 gK! H _ I hq) (λfl s' hs=>?_) λe s' hs=>hs;have fin:∀{σ:St} {H':Hp} {v:V} {u:x5!},Inv no! [] σ H' s'->Bu v u->Q v H'->CE outer P w H s Q u s':=
  λ{σ H' v u} af rv q=>⟨v,H',af.os,af.bare,af.base,af.hok,rv,q⟩
 cases fl with
 |ret u=>
  obtain⟨v,σ,H',af,rv,q⟩:=hs;exact fin af rv q
 |next=>
  obtain⟨σ,H',af,q⟩:=hs;exact fin (v:=V.non) (u:=dF!) af rfl q
 |brk=>
  obtain⟨_,_,_,q⟩:=hs;exact False.elim q
 |cont=>
  obtain⟨_,_,_,q⟩:=hs;exact False.elim q
end L2
namespace L2
open PySem PySem.Spec PyProof.Rows
section
variable{X:Cx}{x:Str}{p pos:Pos}{e:Expr}{es:List Expr}{t:TA}{id T:String}{r:List V->Hp->VK->Prop}
def FX(r:dU!)(t:TA):TE:=λZ H Q=>t Z H λvs H1=>r vs H1 Q
def xD(hc:nq!)(hg:Y_)(hm:c3_)(hv:np_)(ha:e7!)(hn:c4!:=by decide)(bg:F_:=by decide)
  (he:az!:=by rfl)(a7:a6_:=by rfl):PE X bB_ (FX r t):=by
 show"!K";refine LJ ue_;exact PyProof.Rows.callWith_builtin1 uf! he a7
def b6l(hc:Kj X d3_ r)(hg:Y_)(hm:c3_)(hv:nq_)(ha:e7!)(hn:c4!:=by decide)(bg:F_:=by decide)
  (he:az!:=by rfl)(a7:a6_:=by rfl):PE X bB_ (FX r t):=by
 show"!K";refine LJ ue_;exact LM uf! he a7
end
end L2
namespace HT
open PySem PyProof.Rows
nonrec def lexLt:List Int->List Int->Bool
 |[],[]=>false
 |[],_::_=>true
 |_::_,[]=>false
 |x::xs,y::ys=>if x=y then lexLt xs ys else decide (x<y)
def lexLt_cons(x y:Int)(xs ys:w_):lexLt e5_ (y::ys)=if x=y then lexLt xs ys else decide (x<y):=rfl
def lexLt_nil_nil:lexLt [] []=false:=rfl
def xW(y:Int)(ys:w_):lexLt [] (y::ys)=true:=rfl
def xX(x:Int)(xs:w_):lexLt e5_ []=false:=rfl
def c2k(A:x6!)(s:yR!)(a:Int)(t:Tok)(c:Int)(u:Tok):∃e,SeqAt.EqAt A s gM! nr! e/\(e=true↔a=c):=
 ⟨(a==c),QE a t c u,H!⟩
section
open PySem.SeqAt
open PySem.AutoSeq1 (wpAny_loadPart')
open PySem.MeetsSeq PySem.MeetsSeq2 PySem.MeetsSeq3
end
section
variable{prog:yp!}{w:xV!}{A:x6!}{E:Value->Shared->Prop}{s:yR!}
def cat_tup{t b:x7!}{vs ws:i_}{Q:q_}(ht:IsTup s.heap t cy_)(hb:IsTup s.heap b ws.toArray)(hv:vs≠[])
  (Y:ws=[]->Q jc_ s)(L:ws≠[]->Q c6_ {s with heap:=s.heap.push {cls:=.type "tuple",data:=.seq (vs++ws).toArray}})
  (hsz:bB!+nr_<=sizeLine):wpAny r_ A (binaryOp .Add jc_ d4!) Q E s:=by
 obtain⟨⟨cls,dd,data,sl⟩,ho,hc,n,hd⟩:=id ht;obtain⟨⟨UL,lj,data2,ji⟩,jj,ir,n2,jk⟩:=id hb;simp only at hc hd ir jk;subst hc hd ir jk;have e:cy_++ws.toArray=(vs++ws).toArray:=by simp
 by_cases hw:ws=[]
 .exact concat_meets jd! jd_ noFill_tuple_add seq_tuple_add QI QA (PU _ _)
   (tuple_addW1 t b vs.toArray ws.toArray n n2 dd lj sl ji je! (by simp[hw])) ⟨ho,jj,Y hw⟩
 .refine concat_meets jd! jd_ noFill_tuple_add seq_tuple_add QI QA (PU _ _)
   (tuple_addW2 t b vs.toArray ws.toArray n n2 dd lj sl ji je! ns! (by rw[HS,HS];exact hsz)) ⟨ho,jj,?_⟩
  rw[e];exact L hw
nonrec def sIx(n d:Nat):Option Int->Nat
 |none=>d
 |some v=>if v<0 then(nt!).toNat else min v.toNat n
def sIx_none(n d:Nat):sIx n d none=d:=rfl
def sIx_nat(n d k:Nat):sIx n d (some (k:Int))=min k n:=by show(if(k:Int)<0 then((k:Int)+(n:Int)).toNat else min (k:Int).toNat n)=min k n;rw[HP a!,NJ]
def c8m(n d:Nat)(hd:d<=n)(o:a8_):sIx n d o<=n:=by
 cases o with
 |none=>exact hd
 |some v=>
  show uj_<=n;by_cases hv:v<0
  .rw[HY hv];omega
  .rw[HP hv];exact Nat.min_le_right _ _
def b5e(v:Int)(n d:Nat):uk!=((sIx n d dJ!:Nat):Int):=by
 show uk!=((uj_:Nat):Int);by_cases hv:v<0
 .simp only[HY hv];omega
 .simp only[HP hv];omega
def b2n(lo hi:a8_)(n:Nat):Builtin.Slice.sliceAdjust lo hi 1 (n:Int)=(je_,ul_):=by
 have Y:¬((1:Int)<0):=by omega
 unfold Builtin.Slice.sliceAdjust;simp only[Y,JK];refine Prod.ext ?_ ?_
 .cases lo with
  |none=>rfl
  |some v=>exact b5e v n 0
 .cases hi with
  |none=>rfl
  |some v=>exact b5e v n n
def b0z(i j:Nat):Builtin.Slice.slicePlaces (i:Int) (j:Int) 1=j - i:=by
 unfold Builtin.Slice.slicePlaces;have Y:(1:Int)>0:=by omega
 simp only[Y,JT,Int.ediv_one];split<;>omega
def wP{v:x5!}{o:a8_}{Q:Option Int->Shared->Prop}(p:IsPart v o)(h:Q o s):wpAny r_ A (Builtin.Slice.slicePartIndex v) Q E s:=by
 cases p with
 |none=>exact slicePart_none h
 |int i t=>exact slicePart_int h
def sD{lo hi:a8_}{n:Nat}{Q:Int×Int×Nat->Shared->Prop}(hs:um!)(pl:IsPart vl lo)(pu:IsPart vu hi)
  (h:Q (je_,1,sIx n n hi - sIx n 0 lo) s):wpAny r_ A (Builtin.Slice.sliceApplied jf! (pure (n:Int))) Q E s:=by
 obtain⟨os,fq,p7,v9⟩:=id hs;unfold Builtin.Slice.sliceApplied Builtin.Slice.sliceFields;refine HI (HI (LB fq v9 (x:=vl) rfl (HI (LB fq v9 (x:=vu) rfl (HI (LB fq v9 (x:=.none) rfl ac_))))));refine HI (slicePart_none ?_);show wpAny _ _ (if((1:Int)==0)=true then _ else _) _ _ s;rw[HP b_];refine HI (wP pl (HI (wP pu (HI ac_))));show wpAny _ _ (match Builtin.Slice.sliceAdjust lo hi 1 (n:Int)with|(lo,hi)=>pure (lo,(1:Int),Builtin.Slice.slicePlaces lo hi 1)) _ _ s;rw[b2n lo hi n];show wpAny _ _ (pure (je_,(1:Int),Builtin.Slice.slicePlaces je_ ul_ 1)) _ _ s;rw[b0z];exact HK h
def b9p(xs:af!)(i k:Nat):((List.range k).filterMap λ(m:Nat)=>xs[(nw!).toNat]?).toArray=((xs.toList.drop i).take k).toArray:=by
 have e:(λ(m:Nat)=>xs[(nw!).toNat]?)=λm=>xs[i+m]?:=by
  funext m;have:(nw!).toNat=i+m:=by omega
  rw[this]
 rw[e];have:=pick_run xs i k;rw[List.filterMap_map]at this;have e2:((λx=>xs[x]?)∘λx=>i+x)=λm=>xs[i+m]?:=rfl;rw[e2]at this;rw[this]
def getItem_tuple_cut{t:x7!}{items:af!}{lo hi:a8_}{Q:q_}(ht:IsTup s.heap t items)(hs:um!)(pl:IsPart vl lo)(pu:IsPart vu hi)
  (hw:¬(sIx items.size 0 lo=0/\sIx items.size items.size hi=dd_))
  (h:Q c6_ {s with heap:=s.heap.push {cls:=.type "tuple",data:=.seq (nw_).toArray}})
  (hsz:dd_<=sizeLine):wpAny r_ A (getItem jc_ jf!) Q E s:=by
 have we:sizeOk (.seq (nw_).toArray):=by
  show(nw_).toArray.size<=sizeLine;rw[HS,QG,RL,JU];omega
 have hj:sIx items.size items.size hi<=dd_:=c8m _ _ y! hi;obtain⟨os,fq,p7,v9⟩:=id hs;have YR:s.TypeIs jf! "slice":=⟨os,fq,p7⟩;unfold getItem
 try with_reducible refine JO ?_
 first|refine HI ac_|skip
 refine HI (wpAny_sequenceKey ht.typeIs b_ ?_);refine HI (JZ (name:=uu_) ht.typeIs OI
  (JP OI ht.typeIs entry_tuple_getitem ?_ (args_tuple_getitem _ _)))
 show wpAny _ _ (Builtin.Tuple.tupleItemsOf jc_>>=_) _ _ s;refine HI (tupleItemsOf_ ht ?_);refine HI (wpAny_typeOf YR ?_);rw[HY b_];refine HI (sD hs pl pu ?_);have sv:¬(uw!=true):=by
  intro q;rw[IZ,IZ]at q;have q1:ux!=0:=eq_of_beq q.1.1;have q2:sIx items.size items.size hi - sIx items.size 0 lo=dd_:=eq_of_beq q.2;exact hw ⟨v!,v!⟩
 show wpAny _ _ (if uw!=true then _ else _) _ _ s;rw[HP sv,b9p]
 first
  |exact HI (m:=jh!) (KO jh_ we)
  |exact HI (m:=jh!) (KO (HI (HK jh_)) we)
  |exact HI (HI (m:=jh!) (KO (HK jh_) we))
  |exact HI (HI (m:=jh!) (KO jh_ we))
end
end HT
namespace L2
open PySem PySem.Spec PyProof.Rows
abbrev TO:=St->Hp->(Option Int->Hp->Prop)->Prop
def PO(X:Cx)(e:Option Expr)(t:TO):Prop:=
 ∀(h1:o!) (s:yR!) (Z:St) (H:Hp) (Q:uy!),Inv X h1 Z H s->t Z H Q->
  wpAny e_ X.A (evalPart e X.env) (λu s'=>∃o H',Inv X h1 Z H' s'/\IsPart u o/\Q o H') X.xe s
def Yj:TO:=λ_ H Q=>Q none H
def BK(t:TE):TO:=λZ H Q=>t Z H λx H1=>∃i,x=.int i/\Q (some i) H1
def yM{ns:w_}:∀{us:i_},Bc b7_ us->IntsAre us ns:=by
 induction ns with
 |nil=>intro us r;rw[MZ]at r;cases r;exact .nil
 |cons n ns ih=>
  intro us r;rw[HV]at r;cases r with
  |cons r1 r2=>
   obtain⟨t,e⟩:=r1;subst e;exact .cons n t (ih r2)
section
variable{X:Cx}{e:Expr}{te:TE}{lo hi:Option Expr}{tl th:TO}{pos p2:Pos}
def c4s:PO X none Yj:=by intro h1 s Z H Q I h;rw[evalPart_none];exact HK ⟨none,H,I,.none,h⟩
def c4r(h:cv!):PO X iC! (BK te):=by intro h1 s Z H Q I hw;rw[evalPart_some];refine dM mn! λu s1 ⟨x,H1,I1,r1,q1⟩=>?_;obtain⟨i,rfl,q⟩:=q1;obtain⟨t,rfl⟩:=r1;exact⟨K!,H1,I1,.int i t,q⟩
def Zu(X:Cx)(r:jj!):Prop:=
 ∀(h1:o!) (s:yR!) (Z:St) (H:Hp) (x:V) (v vl vu:x5!) (lo hi:a8_) (sl:x7!) (Q:VK),Inv X h1 Z H s->Bu x v->s.heap.IsSliceOf sl vl vu .none->IsPart vl lo->IsPart vu hi->r x lo hi H Q->
  ∃T id,typeLookup d3_ "__getitem__"=pure (some e8_)/\s.TypeIs v T/\wpAny e_ X.A (getItem v jf!) aM! X.xe s
def Zu.or{r r':jj!}(h:Zu X r)(h':Zu X r'):Zu X (λx lo hi H Q=>r x lo hi H Q\/r' x lo hi H Q):=by
 intro h1 s Z H x v vl vu lo hi sl Q I rx hs pl pu q;obtain q|q:=q
 .exact h h1 s Z H x v vl vu lo hi sl Q I rx hs pl pu q
 .exact h' h1 s Z H x v vl vu lo hi sl Q I rx hs pl pu q
def GR(r:jj!)(te:TE)(tl th:TO):TE:=λZ H Q=>te Z H λx H1=>tl Z H1 λl H2=>th Z H2 λu H3=>r x l u H3 Q
def b9v{r:jj!}(hr:Zu X r)(he:cv!)(hl:PO X lo tl)(hu:PO X hi th):PE X (.Subscript e nz_ pos) (GR r te tl th):=by intro h1 s Z H Q I h;refine Subscript_ sd!;refine wpAny_Slice (dM (hl h1 s1 Z H1 _ I1 q1) λvl s2 ⟨l,H2,I2,pl,q2⟩=>dM (hu h1 s2 Z H2 _ I2 q2) λvu s3 ⟨u,H3,I3,pu,q3⟩=>?_);rw[evalPart_none];refine HK ?_;have I4:Inv X h1 Z H3 {s3 with heap:=s3.heap.push {cls:=.type "slice",data:=.fields #[vl,vu,.none]}}:=I3.kept (t':=s3.toks) λb ob q=>HM _ q;obtain⟨T,id,hT,ht,hg⟩:=hr h1 {s3 with heap:=s3.heap.push {cls:=.type "slice",data:=.fields #[vl,vu,.none]}} Z H3 x v vl vu l u s3.heap.objs.size Q I4 r1 (Heap.IsSliceOf.new ..) pl pu q3;show wpAny e_ X.A (subscriptTail e nz_ v (.ref uC!)) aM! X.xe {s3 with heap:=s3.heap.push {cls:=.type "slice",data:=.fields #[vl,vu,.none]}};exact tail_any (ops:=[.ref uC!,v]) ht hT hg (by with_unfolding_all rfl)
def Um(xs:n_)(lo hi:a8_):List V:=(xs.drop nB_).take nC!
def vD(xs:n_)(lo hi:a8_):(gO_).length<=m_:=by unfold Um;rw[QG,RL];omega
def ES(K:yS!):V->Option Int->Option Int->Hp->VK->Prop:=λx lo hi H Q=>∃a xs,x=.ref a/\Gf K H a xs/\
 ¬(HT.sIx xs.length 0 lo=0/\HT.sIx xs.length xs.length hi=m_)/\∀p,H p=none->Q da! (upd H p (.tup gO_))
def c8j:Zu X (ES X.K):=by
 intro h1 s Z H x v vl vu lo hi sl Q I rx hs pl pu h;obtain⟨a,xs,rfl,J,hw,q⟩:=h;cases rx;obtain⟨its,r,ht,hz⟩:=I.tuple J;have ap:bO!=m_:=by rw[HS];exact r.length.symm
 refine⟨"tuple",_,OI.lookup,ht.typeIs,?_⟩;refine HT.getItem_tuple_cut ht hs pl pu (by rw[ap];exact hw) ?_ (by rw[ap];exact hz);rw[ap];refine⟨de_,_,I.laid (t':=s.toks) (o:=.tup gO_) nE_ y! ?_,rfl,q _ gI!⟩;exact⟨uE!,_,uE_,IsTup.new _ _⟩
def Zp(K:yS!):R2:=λx y H Q=>∃a b xs ys,x=.ref a/\y=.ref b/\Gf K H a xs/\Gf K H b ys/\xs≠[]/\m_+ad!<=sizeLine/\
 (ys=[]->Q ag! H)/\(ys≠[]->∀p,H p=none->Q da! (upd H p (.tup eK_)))
def Bc.nil_iff{xs:n_}(r:ig_):us=[]↔xs=[]:=by
 cases r with
 |nil=>simp
 |cons _ _=>simp
def c5c:Gx X e0_ (Zp X.K):=by intro h1 s Z H x y v u Q I rx ry h;obtain⟨a,b,xs,ys,rfl,rfl,ha,hb,J,hz,q1,q2⟩:=h;cases rx;cases ry;obtain⟨its,r1,p1,_⟩:=I.tuple ha;obtain⟨gu,r2,p2,_⟩:=I.tuple hb;refine HT.cat_tup p1 p2 (λz=>J (r1.nil_iff.mp z)) (λz=>⟨d1!,H,I,rfl,q1 (r2.nil_iff.mp z)⟩) (λz=>?_) (by rw[<-r1.length,<-r2.length];exact hz);refine⟨de_,_,I.laid (t':=s.toks) (o:=.tup eK_) nE_ y! ?_,rfl,q2 (λw=>z (r2.nil_iff.mpr w)) _ gI!⟩;exact⟨by rw[IG];exact hz,_,r1.append r2,IsTup.new _ _⟩
end
end L2
namespace L2
open PySem PySem.Spec PyProof.Rows
def Ea(n:Nat)(i:Int):Option Nat:=if 0<=i then(if i<n then some i.toNat else none)else if -(n:Int)<=i then some (i+n).toNat else none
def Dc{α:Type}(xs:P_)(i:Int):Option α:=(Ea xs.length i).bind λj=>xs[j]?
def b4q{n:Nat}{i:Int}{j:Nat}(h:Ea n i=some j):seqIndex? i n=some j/\j<n/\-(n:Int)<=i/\i<n:=by
 unfold Ea at h;by_cases h0:0<=i
 .rw[HY h0]at h;by_cases Y:i<n
  .rw[HY Y]at h;have e:i.toNat=j:=JJ h;exact⟨by rw[seqIndex_of h0 Y,e],v!,v!,Y⟩
  .rw[HP Y]at h;cases h
 .rw[HP h0]at h;by_cases Y:-(n:Int)<=i
  .rw[HY Y]at h;have e:(i+n).toNat=j:=JJ h;exact⟨by rw[seqIndex_neg a! Y,e],v!,Y,v!⟩
  .rw[HP Y]at h;cases h
def a5s{α:Type}{xs:P_}{i:Int}{v:α}(h:Dc xs i=some v):∃j,seqIndex? i m_=some j/\xs[j]?=some v/\j<m_/\-jn!<=i/\i<m_:=by
 unfold Dc at h;cases e:Ea xs.length i with
 |none=>rw[e]at h;cases h
 |some j=>
  rw[e]at h;obtain⟨Y,L,h3,h4⟩:=b4q e;exact⟨j,Y,h,L,h3,h4⟩
def Qh(b:Expr):Prop:=∀o i,subscripted b false o i=operate [o,i] (getItem o i)
def Ws(X:Cx)(r:R2):Prop:=
 ∀(value gd:Expr) (h1:o!) (s:yR!) (Z:St) (H:Hp) (x y:V) (v u:x5!) (Q:VK),Inv X h1 Z H s->Bu x v->Bu y u->r x y H Q->
  subscripted gd false v u=operate [v,u] (getItem v u)->wpAny e_ X.A (subscriptTail value gd v u) aM! X.xe s
def GJ(X:Cx)(id:String)(r:nH!):Prop:=
 ∀(h1:o!) (s:yR!) (Z:St) (H:Hp) (x:V) (xs:n_) (v:x5!) (us:i_) (Q:VK),Inv X h1 Z H s->Bu x v->Bc xs us->r x xs H Q->
  wpAny e_ X.A uM! aM! X.xe s
section
variable{X:Cx}{a b:Expr}{ta tb:TE}{pos:Pos}
def Ws.or{r r':R2}(h:Ws X r)(h':Ws X r'):Ws X sU!:=by
 intro value gd h1 s Z H x y v u Q I rx ry q hs;obtain q|q:=q
 .exact h value gd h1 s Z H x y v u Q I rx ry q hs
 .exact h' value gd h1 s Z H x y v u Q I rx ry q hs
def c0b{r:R2}(hr:Ws X r)(ha:a2_)(hb:cs!)(hs:Qh b):PE X nH_ iP!:=by intro h1 s Z H Q I h;exact Subscript_ (d1f ha hb I h λv u s2 x y H2 I2 rx ry q=>hr a b h1 s2 Z H2 x y v u Q I2 rx ry q (hs _ _))
def BX(K:yS!):R2:=λx y H Q=>∃p xs i v,x=.ref p/\y=.int i/\Fz K H p xs/\Dc xs i=some v/\Q v H
def BV(K:yS!):R2:=λx y H Q=>∃p xs i v,x=.ref p/\y=.int i/\Gf K H p xs/\Dc xs i=some v/\Q v H
def BW:R2:=λx y H Q=>∃z i c,x=.str z/\y=.int i/\jn_<=sizeLine/\Dc z.cps.toList i=some c/\Q gP_ H
def b4p:Ws X (BX X.K):=by
 intro value gd h1 s Z H x y v u Q I rx ry h hs;obtain⟨p,xs,i,z,rfl,rfl,hq,he,q⟩:=h;cases rx;obtain⟨t,rfl⟩:=ry;show"!P";obtain⟨j,Y,L,h3,h4,h5⟩:=a5s he;obtain⟨w,ew,ak⟩:=r.get L;have hl:=aX_;have hn:=tQ;have fin:EP X h1 Z Q w s:=uM_;by_cases h0:0<=i
 .have hj:i.toNat=j:=by
   rw[seqIndex_of h0 h5]at Y;exact JJ Y
  exact item_listR pl.isList h0 a! uN! fin hs
 .have hj:(i+(bO!:Int)).toNat=j:=by
   rw[seqIndex_neg a! h4]at Y;rw[HS,<-hl];exact JJ Y
  exact subscriptTail_builtinR (x:=w) pl.isList.typeIs uP!
   (wpAny_getItem_list_neg (Q:=uP_) pl.isList a! uQ! a! uN! ⟨rfl,fin⟩) hs
def c9x:Ws X (BV X.K):=by
 intro value gd h1 s Z H x y v u Q I rx ry h hs;obtain⟨p,xs,i,z,rfl,rfl,hq,he,q⟩:=h;cases rx;obtain⟨t,rfl⟩:=ry;obtain⟨its,r,pl,hz⟩:=I.tuple hq;obtain⟨j,Y,L,h3,h4,h5⟩:=a5s he;obtain⟨w,ew,ak⟩:=r.get L;have hl:=aX_;have hn:=tQ;have fin:EP X h1 Z Q w s:=uM_;exact subscriptTail_builtinR (x:=w) pl.typeIs slot_tuple_getitem.lookup
  (getItem_tuple (j:=j) (Q:=uP_) pl a! a! (by rw[HS,<-hl];exact Y) (by simpa using ew) ⟨rfl,fin⟩) hs
def c9y:Ws X BW:=by
 intro value gd h1 s Z H x y v u Q I rx ry h hs;obtain⟨z,i,c,rfl,rfl,hz,he,q⟩:=h;obtain⟨t,rfl⟩:=rx;obtain⟨t',rfl⟩:=ry;obtain⟨j,Y,L,h3,h4,h5⟩:=a5s he;have hl:z.cps.toList.length=jn_:=by simp[Str.length]
 rw[hl]at Y h4 h5;have hn:=tQ;exact tail_any (typeIs_str s z t) slot_str_getitem.lookup (getItem_str (c:=c) (by
  have e1:decide (i< -(2 ^ 63:Int))=false:=IF a!;have e2:decide (i>=2 ^ 63)=false:=IF a!;rw[e1,e2,Bool.or_false]) (by rw[Y];simpa using L) ⟨gQ!,H,a3!,L!,q⟩) hs
def EV(K:yS!):R2:=λx y H Q=>BX K x y H Q\/BV K x y H Q\/BW x y H Q
def aH:Ws X (EV X.K):=b4p.or (c9x.or c9y)
def b1n(its:i_)(n j:Nat)(u:x5!):Obj.mapSeq uR_ {cls:=.type "list",data:=.seq its.toArray n}={cls:=.type "list",data:=.seq (its.set j u).toArray n}:=by simp[Obj.mapSeq]
def Inv.lst{h1:o!}{Z:St}{H:Hp}{s:yR!}{p:x7!}{xs:n_}(I:d_)(h:H p=some T!):
  ∃(its:i_) (n:Nat),Bc xs its/\s.heap.get? p=some {cls:=.type "list",data:=.seq its.toArray n}/\m_<=sizeLine:=by
 obtain⟨z,its,n,r,e⟩:=I.hok p _ h;exact⟨its,n,r,e,z⟩
def Inv.lstUpd{h1:o!}{Z:St}{H:Hp}{s:yR!}{p:x7!}{xs ys:n_}{its its':i_}{n n':Nat}{f:Obj->Obj}(I:d_)(h:H p=some T!)
  (ho:s.heap.get? p=some {cls:=.type "list",data:=.seq its.toArray n})(hf:f {cls:=.type "list",data:=.seq its.toArray n}={cls:=.type "list",data:=.seq its'.toArray n'})(r:Bc ys its')(hz:jo_)(t:Nat):
  Inv X h1 Z (upd H p ba_) {s with heap:=s.heap.update p f,toks:=t}:=by
 have e:(s.heap.update p f).get? p=some {cls:=.type "list",data:=.seq its'.toArray n'}:=by
  rw[NU f ho (by rw[hf]<;>rfl),hf]
 refine I.write (x:=p) (e:=p) (by rw[h];trivial) G! (λb u hb q=>(uV!).trans q) ⟨_,e⟩ ?_;exact⟨hz,its',n',r,e⟩
def BR:V->V->V->Hp->mu_->Prop:=λo i v H Q=>∃p xs k j,o=.ref p/\i=.int k/\H p=some T!/\Ea xs.length k=some j/\Q uW_
def a6g:Wp X BR:=by
 intro h1 s Z H o i v ov iv u Q I ro ri rv h;obtain⟨p,xs,k,j,rfl,rfl,hp,hj,q⟩:=h;cases ro;obtain⟨t,rfl⟩:=ri;obtain⟨its,n,r,ho,hz⟩:=I.lst hp;obtain⟨Y,L,h3,h4⟩:=b4q hj;have hl:=aX_;have hn:=tQ;have I':Inv X h1 Z uW_ {s with heap:=s.heap.update p (Obj.mapSeq uR_)}:=
  I.lstUpd hp ho (b1n its n j u) (r.set rv j) (by rw[LO];exact hz) s.toks
 by_cases h0:0<=k
 .have hk:k.toNat=j:=by
   rw[seqIndex_of h0 h4]at Y;exact JJ Y
  exact W.ki_setAt ho h0 a! (by rw[HS,<-hl];exact h4) uY_
 .have hk:(k+(bO!:Int)).toNat=j:=by
   rw[seqIndex_neg a! h3]at Y;rw[HS,<-hl];exact JJ Y
  exact W.ki_setBack ho a! (by rw[HS,<-hl];exact h3) a! uY_
def a2j(lo hi:a8_)(n:Nat):(nK!).1=((HT.sIx n 0 lo:Nat):Int)/\(nK!).2.1=((HT.sIx n n hi:Nat):Int)/\(nK!).2.2=1:=by
 refine⟨?_,?_,rfl⟩
 .cases lo with
  |none=>simp[sliceBounds,HT.sIx]
  |some i=>
   show"!q"
   .simp only[h,JT]<;>omega
   .simp only[h,JK]<;>omega
 .cases hi with
  |none=>simp[sliceBounds,HT.sIx]
  |some i=>
   show"!q"
   .simp only[h,JT]<;>omega
   .simp only[h,JK]<;>omega
def zD(its:i_)(lo hi:a8_):slicePick its.toArray lo hi none=((its.drop (HT.sIx its.length 0 lo)).take (HT.sIx its.length its.length hi - HT.sIx its.length 0 lo)).toArray:=by obtain⟨Y,L,h3⟩:=a2j lo hi bO!;unfold slicePick;rw[Y,L,h3];simp only[sliceRange_one,pick_run,HS]<;>rfl
def ET(K:yS!):V->Option Int->Option Int->Hp->VK->Prop:=λx lo hi H Q=>∃a xs,x=.ref a/\Fz K H a xs/\∀p,H p=none->Q da! (upd H p (.lst gO_))
def c3x:Zu X (ET X.K):=by intro h1 s Z H x v vl vu lo hi sl Q I rx hs pl pu h;obtain⟨a,xs,rfl,J,q⟩:=h;cases rx;obtain⟨its,r,ht,hz⟩:=I.list J;have ap:=aX_;refine⟨"list",_,uP!,ht.isList.typeIs,?_⟩;refine wpAny_getItem_list_slice ht.isList hs pl pu .none d! ?_ uQ!;rw[zD,<-ap];refine⟨de_,_,I.laid (t':=s.toks) (o:=.lst gO_) nE_ y! ?_,rfl,q _ gI!⟩;exact⟨uE!,_,0,uE_,dS!⟩
def Nm:V->Bool
 |.non=>true
 |.bl _=>true
 |.int _=>true
 |.str _=>true
 |_=>false
def Ye:V->V->Bool
 |.non,.non=>true
 |.bl a,.bl b=>a==b
 |.bl a,.int b=>u1_==b
 |.int a,.bl b=>a==u2!
 |.int a,.int b=>a==b
 |.str a,.str b=>a==b
 |_,_=>false
def d0f{A:x6!}{s:yR!}{y x:V}{u v:x5!}(ry:Bu y u)(rx:Bu x v)(fy:Nm y=true)(fx:Nm x=true):SeqAt.EqAt A s u v (Ye y x):=by
 cases y with
 |non=>
  cases ry;cases x with
  |non=>cases rx;exact SeqAt.EqAt.same _
  |bl b=>cases rx;exact SeqAt.EqAt.none_bool b
  |int b=>obtain⟨t,rfl⟩:=rx;exact SeqAt.EqAt.none_int b t
  |str b=>obtain⟨t,rfl⟩:=rx;exact SeqAt.EqAt.none_str b t
  |_=>exact absurd jp! IN
 |bl a=>
  cases ry;cases x with
  |non=>cases rx;exact SeqAt.EqAt.bool_none a
  |bl b=>cases rx;exact SeqAt.EqAt.bool_bool a b
  |int b=>obtain⟨t,rfl⟩:=rx;exact SeqAt.EqAt.bool_int a b t
  |str b=>obtain⟨t,rfl⟩:=rx;exact SeqAt.EqAt.bool_str a b t
  |_=>exact absurd jp! IN
 |int a=>
  obtain⟨t',rfl⟩:=ry;cases x with
  |non=>cases rx;exact SeqAt.EqAt.int_none a t'
  |bl b=>cases rx;exact SeqAt.EqAt.int_bool a t' b
  |int b=>obtain⟨t,rfl⟩:=rx;exact QE a t' b t
  |str b=>obtain⟨t,rfl⟩:=rx;exact SeqAt.EqAt.int_str a t' b t
  |_=>exact absurd jp! IN
 |str a=>
  obtain⟨t',rfl⟩:=ry;cases x with
  |non=>cases rx;exact SeqAt.EqAt.str_none a t'
  |bl b=>cases rx;exact SeqAt.EqAt.str_bool a t' b
  |int b=>obtain⟨t,rfl⟩:=rx;exact SeqAt.EqAt.str_int a t' b t
  |str b=>obtain⟨t,rfl⟩:=rx;exact SeqAt.EqAt.str_str a t' b t
  |_=>exact absurd jp! IN
 |_=>exact absurd (show false=true from fy) IN
def Yz(x:V)(u:x5!):Bool:=match u with
 |.none=>Ye .non x
 |.bool b=>Ye bK_ x
 |.int i _=>Ye bx! x
 |.str z _=>Ye (.str z) x
 |_=>false
def c2j{x y:V}{u:x5!}(r:Bu y u)(f:Nm y=true):Yz x u=Ye y x:=by
 cases y with
 |non=>cases r;rfl
 |bl b=>cases r;rfl
 |int i=>obtain⟨t,rfl⟩:=r;rfl
 |str z=>obtain⟨t,rfl⟩:=r;rfl
 |_=>exact absurd (show false=true from f) IN
def a5u{x:V}:∀{xs:n_} {us:i_},Bc xs us->xs.all Nm=true->us.any gR_=xs.any λy=>Ye y x
 |_,_,.nil,_=>rfl
 |y::xs,u::us,.cons r t,f=>by
  rw[NI,IZ]at f;rw[MC,MC,c2j r f.1,a5u t f.2]
def xT{A:x6!}{s:yR!}{x:V}{v:x5!}(rx:Bu x v)(fx:Nm x=true):∀{xs:n_} {us:i_},Bc xs us->xs.all Nm=true->∀u∈us,SeqAt.EqAt A s u v (Yz x u)
 |_,_,.nil,_=>λu hu=>by cases hu
 |y::xs,u::us,.cons r t,f=>λu' hu=>by
  rw[NI,IZ]at f;obtain rfl|hu:=HN.mp hu
  .rw[c2j r f.1];exact d0f r rx f.1 fx
  .exact xT rx fx t f.2 u' hu
def DN(x:V)(xs:n_):Bool:=xs.any λy=>Ye y x
def EW(K:yS!)(neg:Bool):R2:=λx y H Q=>∃p xs,y=.ref p/\(Fz K H p xs\/Gf K H p xs)/\Nm x=true/\xs.all Nm=true/\Q (.bl (if neg then !DN x xs else DN x xs)) H
def b6q:Gx X jp_ (EW X.K false):=by
 intro h1 s Z H x y v u Q I rx ry h;obtain⟨p,xs,rfl,hq,fx,fs,q⟩:=h;cases ry;obtain hq|hq:=hq
 .show"!P";refine SeqAt.in_listAt gR_ pl.isList u3_ fc!;rw[u4!,a5u r fs];exact q
 .show"!{";refine SeqAt.in_tupleAt gR_ pl u3_ fc!;rw[u4!,a5u r fs];exact q
def a5p:Kj X d6_ (λxs H Q=>∃p ys,xs=gS_/\(Fz X.K H p ys\/Gf X.K H p ys)/\∀l,H l=none->Q jr! jq!):=by
 intro h1 s Z H xs us Q I r h;obtain⟨p,ys,rfl,hq,q⟩:=h;obtain⟨u,rfl,rx⟩:=uI r;cases rx;have fin:∀(its:i_),Bc ys its->ad!<=sizeLine->∀(h':Heap) (c':Nat),(∀b o',s.heap.get? b=some o'->h'.get? b=some o')->
   h'.get? o_=some {cls:=.type "list",dict:=none,data:=.seq its.toArray c',slots:=#[]}->EP X h1 Z Q c6_ {s with heap:=h'}:=λits r' hz h' c' kp e=>
  ⟨de_,_,I.laid (t':=s.toks) kp y! (show Fg X.prog X.w _ h' _ ba_ from⟨hz,its,c',r',e⟩),rfl,q _ gI!⟩
 obtain hq|hq:=hq
 .obtain⟨its,r',pl,hz⟩:=I.list hq;have ap:=iX_;obtain⟨o,ho,hc,n,hd⟩:=pl.isList;exact call_list_seq p G! ho hc hd u5_ u6!
 .obtain⟨its,r',pl,hz⟩:=I.tuple hq;have ap:=iX_;obtain⟨o,ho,hc,n,hd⟩:=pl;exact call_list_seq p fc_ ho hc hd u5_ u6!
def FR(K:yS!)(T:String)(x:V)(H:Hp):Prop:=match x with
 |.str _=>T="str"
 |.int _=>T="int"
 |.ref p=>(T="list"/\∃xs,Fz K H p xs)\/(T="tuple"/\∃o,K.lookup p=some o/\o.cls=.type "tuple"/\o.dict=none)\/
   (T="dict"/\((∃kvs,H p=some dY!)\/∃kvs,H p=some js!))\/(T="set"/\∃S n,H p=some (.set S n))
 |_=>False
def c8g{h1:o!}{Z:St}{H:Hp}{s:yR!}{T:String}{x:V}{v:x5!}(I:d_)(r:Bu x v)(ty:FR X.K T x H):
  s.TypeIs v T/\∀a,v=.ref a->∃ob,s.heap.get? a=some ob/\ob.dict=none:=by
 cases x with
 |str z=>
  obtain⟨t,rfl⟩:=r;cases (show T="str" from ty);exact⟨typeIs_str s z t,u7_⟩
 |int i=>
  obtain⟨t,rfl⟩:=r;cases (show T="int" from ty);exact⟨typeIs_int s i t,u7_⟩
 |ref p=>
  cases r;obtain⟨rfl,xs,hq⟩|⟨rfl,o,hk,hc,hd⟩|⟨rfl,hk⟩|⟨rfl,S,n,hk⟩:=ty
  .obtain⟨its,_,pl,_⟩:=I.list hq;refine⟨pl.isList.typeIs,λa e=>?_⟩;cases e;obtain⟨o,n,e,c,hd,_⟩:=pl;exact⟨o,e,hd⟩
  .refine⟨⟨o,I.kIn p o hk,hc⟩,λa e=>?_⟩;cases e;exact⟨o,I.kIn _ o hk,hd⟩
  .have z:∃o,s.heap.get? p=some o/\ii!:=by
    obtain⟨kvs,hk⟩|⟨kvs,hk⟩:=hk
    .show"!w"
    .show"!w"
   obtain⟨o,e,ex⟩:=z;refine u9!;cases e2;exact va_
  .obtain⟨o,_,_,_,e,ex,_⟩:=I.hok p _ hk;refine u9!;cases e2;exact va_
 |_=>exact False.elim ty
def GU(K:yS!)(T:String)(r:nH!)(to:TE)(t:TA):TE:=λZ H Q=>to Z H λx H1=>FR K T x H1/\t Z H1 λxs H2=>r x xs H2 Q
variable{o e:Expr}{es:List Expr}{to:TE}{t:TA}{name:Str}{aj ah:Pos}{T id:String}{r:V->List V->Hp->VK->Prop}
def a0m(pa:PlainAttrs T)(slot:Slot T name id)(YS:typeOf e8_=pure (.type "method_descriptor"))(hm:GJ X id r)(ho:PE X o to)(ha:e7!)
  (gw:attributeBase o name X.env dQ!=eval o X.env:=by rfl)
  (g7:((backTo ah tR!).all cA!&&(cA_).all cB!
   &&decide ((aO!).length+(d7!).length+fd!<30))=true:=by rfl)
  (g8:d7_:=by rfl) (hs:az!:=by rfl) (g9:(vc!).any c_=false:=by rfl):
  PE X (.Call (.Attribute o name aj) aO! [] ah) (GU X.K T r to t):=by
 show"!K";refine wpAny_Call_method_late gw g7 g8 rfl (dM sa_ λv s1 ⟨x,H1,I1,r1,ty,q1⟩=>?_);obtain⟨Y,L⟩:=c8g I1 r1 ty;refine⟨T,id,pa,slot,YS,Y,L,?_⟩;have hA:=ha ah h1 s1 Z H1 _ I1 q1;rw[hs]at hA ⊢;refine NK (by show(false||(vc!).any c_)=false;rw[g9]<;>rfl) (NX ?_);exact dM hA λus s2 ⟨vs,H2,I2,r2,q2⟩=>hm h1 s2 Z H2 x vs v us Q I2 r1 r2 q2
end
end L2
namespace L2
open PySem PySem.Spec PyProof.Rows
def FJ(X:Cx)(id:String)(r:nH!):Prop:=
 ∀(h1:o!) (s:yR!) (Z:St) (H:Hp) (x:V) (xs:n_) (v:x5!) (us:i_) (Q:VK),Inv X h1 Z H s->Bu x v->Bc xs us->r x xs H Q->
  wpAny e_ X.A uM! aM! X.xe s
def Bc.one:∀{x:V} {us:i_},Bc [x] us->∃u,us=[u]/\Bu x u
 |_,_,.cons r .nil=>lP!
def Bc.rep{xs:n_}(h:ig_):∀k:Nat,Bc (vd!).flatten (List.replicate k us).flatten
 |0=>.nil
 |k+1=>by
  rw[LN,LN,NH,NH];exact Bc.append h (Bc.rep h k)
def a1i(its:i_):∀(k:Nat) (acc:i_),
  List.foldl nP! acc.toArray (List.replicate k bg_)=(acc++(vd_).flatten).toArray
 |0,acc=>by simp
 |k+1,acc=>by
  have e:acc.toArray++bg_=(nQ!).toArray:=by simp
  have e2:nQ!++(vd_).flatten=acc++(List.replicate V! its).flatten:=by
   rw[LN,NH,KB]
  rw[<-e2,<-a1i its k nQ!,<-e,LN,OC]
section
variable{X:Cx}{h1:List (Addr×Obj)}{Z:St}{H:Hp}{s:yR!}{l b:x7!}{xs ys zs:List V}
def Inv.lset{its its':i_}{n:Nat}{f:Array Value->Array Value}{t':Nat}(I:d_)(hH:H l=some T!)
  (e:s.heap.get? l=some {cls:=.type "list",data:=.seq its.toArray n})(hf:f bg_=its'.toArray)(hv:Bc ys its')(hz:jo_):
  Inv X h1 Z jq! {s with heap:=s.heap.update l vf!,toks:=t'}:=by
 have q:=PySem.IsL.update e f;rw[hf]at q;refine I.write (x:=l) (e:=l) (by rw[hH];exact trivial) G! (λb' u hb hu=>(JI s.heap vf! (HR hb)).trans hu) ⟨_,q⟩ ?_;exact⟨hz,its',_,hv,q⟩
def Inv.lnew{its:i_}{t':Nat}(I:d_)(hv:Bc ys its)(hz:jo_):
  Inv X h1 Z (upd H s.heap.objs.size ba_) {s with heap:=s.heap.push {cls:=.type "list",data:=.seq bg_},toks:=t'}:=
 I.laid vg_ y! ⟨hz,its,0,hv,dS!⟩
def Inv.fresh(I:d_):H o_=none:=I.hok.fresh y!
def Inv.lstM(I:d_)(hH:H l=some T!):m_<=sizeLine/\∃(its:i_) (n:Nat),Bc xs its/\m_=gT_/\s.heap.get? l=some {cls:=.type "list",data:=.seq its.toArray n}:=by obtain⟨z,its,n,r,e⟩:=I.hok l _ hH;exact⟨z,its,n,r,aX_,e⟩
def a7m{n:Nat}(h:nR!):Builtin.List.listTooLong n=false:=by unfold Builtin.List.listTooLong;exact IF a!
end
section
variable{X:Cx}
def Yo:V->List V->Hp->VK->Prop:=λx vs H Q=>∃l xs y,x=.ref l/\vs=[y]/\H l=some T!/\m_<sizeLine/\Q .non (upd H l (.lst (xs++[y])))
def a0w:FJ X "list.append" Yo:=by intro h1 s Z H x vs v us Q I rx rv h;obtain⟨l,xs,y,rfl,rfl,hH,hz,q⟩:=h;cases rx;obtain⟨u,rfl,ru⟩:=rv.one;obtain⟨z,its,n,r,hl,e⟩:=I.lstM hH;refine call_meets F.slot_list_append d8! F.entry_list_append (F.args_list_append_2 _ _) (PySem.list_append l its.toArray n u vh_) gU!;refine⟨.non,_,I.lset (its':=its++[u]) hH e d! (r.append vj!) ?_,rfl,q⟩;rw[IG,LA];omega
def Yn:V->List V->Hp->VK->Prop:=λx vs H Q=>∃l b xs zs,x=.ref l/\vs=[.ref b]/\H l=some T!/\H b=some (.lst zs)/\m_+zs.length<=sizeLine/\Q .non (upd H l vk!)
def b7a:FJ X "list.extend" Yn:=by
 intro h1 s Z H x vs v us Q I rx rv h;obtain⟨l,b,xs,zs,rfl,rfl,hH,hB,hz,q⟩:=h;cases rx;obtain⟨u,rfl,ru⟩:=rv.one;cases ru;obtain⟨z,its,n,r,hl,e⟩:=I.lstM hH;obtain⟨z2,gu,n2,r2,UM,e2⟩:=I.lstM hB;have hsz:bO!+vl!<=sizeLine:=by rw[HS,HS];omega
 have yt:¬(! m3_&&Builtin.List.listTooLong (bO!+vl!))=true:=by
  rw[a7m hsz,QS];exact IN
 refine call_meets F.slot_list_extend d8! F.entry_list_extend (F.args_list_extend_2 _ _)
  (AutoSeq1.list_extend_list_list_0 l its.toArray n b gu.toArray n2 yt vh_ a!) ⟨e,e2,?_⟩
 refine⟨.non,_,I.lset (its':=its++gu) hH e d! (r.append r2) ?_,rfl,q⟩;rw[IG];omega
def EU:R2:=λx y H Q=>∃l k xs,x=.ref l/\y=.int k/\H l=some T!/\-(2 ^ 63)<=k/\k<2 ^ 63/\m_*k.toNat<=sizeLine/\
 ∀p,H p=none->Q da! (upd H p (.lst (List.replicate k.toNat xs).flatten))
def c5m{α:Type}(xs:P_)(k:Nat):(vd!).flatten.length=k*m_:=by
 induction k with
 |zero=>simp
 |succ k ih=>rw[LN,NH,IG,ih,Nat.succ_mul,Nat.add_comm]
def c9a:Gx X sJ_ EU:=by
 intro h1 s Z H x y v u Q I rx ry h;obtain⟨l,k,xs,rfl,rfl,hH,Y,L,hz,q⟩:=h;cases rx;obtain⟨t,rfl⟩:=ry;obtain⟨z,its,n,r,hl,e⟩:=I.lstM hH;have ap:bO!*k.toNat<=sizeLine:=by rw[HS,<-hl];exact hz
 have YT:¬bO!*k.toNat>(2 ^ 63 - 1) / 8:=by
  have:(sizeLine:Nat)<=(2 ^ 63 - 1) / 8:=by decide
  omega
 have yu:¬(!Builtin.List.listFitsIndex k)=true:=by
  rw[fitsIndex_both Y L];exact IN
 have yt:¬Builtin.List.listTooLong (bO!*k.toNat)=true:=by
  rw[a7m ap];exact IN
 have p8:List.foldl nP! #[] (List.replicate (if m3_=true then 0 else k.toNat) bg_)=(List.replicate k.toNat its).flatten.toArray:=by
  have f0:∀m:Nat,List.foldl nP! #[] (List.replicate m bg_)=(List.replicate m its).flatten.toArray:=λm=>by
   have:=a1i its m [];rw[KP]at this;exact this
  rw[f0];cases its with
  |nil=>simp
  |cons a r'=>rw[W_]
 refine wpAny_binaryOp_repeat_ref (T:="list") (U:="int") b_ d8! (λs'=>typeIs_int s' k t) noFill_list_mul F.fills_int_mul F.slot_int_rmul repeat_list F.slot_int_index.lookup
  (call_meets F.slot_int_rmul (typeIs_int s k t) F.entry_int_rmul (F.args_int_rmul_2 _ _) (int___rmul___int_list k t l its.toArray n)
   ⟨e,rfl,d8!,call_meets F.slot_list_mul d8! F.entry_list_mul (F.args_list_mul_2 _ _) (AutoListH.list___mul___list_int_3 l its.toArray n k t yu YT yt) gU!⟩)
 rw[p8];exact⟨.ref _,_,I.lnew (t':=s.toks) (r.rep k.toNat) (by rw[c5m,Nat.mul_comm];exact hz),rfl,q _ I.fresh⟩
end
end L2
namespace L2
open PySem PySem.Spec PyProof.Rows
section
variable{κ:Type} [DecidableEq κ]
def Nz(kvs:gz!)(k:κ):Option V:=(kvs.find? λkv=>decide (kv.1=k)).map A_
def b8a{p:κ×V}{r:gz!}{k:κ}(e:p.1=k):Nz (p::r) k=some p.2:=by simp[Nz,LQ,e]
def b8b{p:κ×V}{r:gz!}{k:κ}(e:¬p.1=k):Nz (p::r) k=Nz r k:=by simp[Nz,LQ,e]
def Ou.isSome_eq{o:Option V}{u:na_}(r:Ou o u):o.isSome=u.isSome:=by
 cases o with
 |none=>cases u with
  |none=>rfl
  |some _=>exact(i0_).elim
 |some _=>cases u with
  |none=>exact(i0_).elim
  |some _=>rfl
def KV.val{kvs:gz!}{vs:List lP_}(r:KV kvs vs)(k:κ):Ou (Nz kvs k) (valueAt vs k):=by
 unfold KV at r
 induction r with
 |nil=>exact i2!
 |@cons p q ps qs h t ih=>
  obtain⟨Y,L⟩:=h;by_cases e:p.1=k
  .have e':q.1=k:=Y.symm.trans e;have b:valueAt (q::qs) k=some q.2:=by simp[valueAt,LQ,e']
   rw[b8a e,b];exact L
  .have e':¬q.1=k:=λz=>e (Y.trans z);have b:valueAt (q::qs) k=valueAt qs k:=by simp[valueAt,LQ,e']
   rw[b8b e,b];exact ih
end
def c1r{P:yp!}{w:xV!}{k:Key}{u:x5!}(r:Bu (kV k) u):(bu!).is k u=true:=by
 cases k with
 |inl i=>obtain⟨t,e⟩:=tq!;subst e;exact a7t P w i t
 |inr x=>obtain⟨t,e⟩:=tq_;subst e;exact mR P w x t
def tT{P:yp!}{w:xV!}:∀{ks:List Key} {us:i_},Bc nT! us->ItemsAre bu! ks us
 |[],_,r=>by rw[MZ]at r;cases r;exact .nil
 |k::ks,_,r=>by
  rw[HV]at r;cases r with
  |cons h t=>exact .cons (c1r h) (tT t)
abbrev KT(H:Hp):List (List Key×V)->List lQ!->Prop:=Paired λp q=>p.1=q.1/\H q.2.1=some q1_/\Bu p.2 q.2.2
section
variable{P:yp!}{w:xV!}{H:Hp}{h:Heap}{a:x7!}
def d2h{u:HO}(ok:bv!)(e:Rd H a u):Fg P w H h a u:=e.ok ok
def a4u{ks:List Key}(ok:bv!)(e:H a=some (.tup nT!)):(f5_).is h ks a:=by obtain⟨_,its,r,o,Y,L,n,h3⟩:=(show Fg P w H h a (.tup nT!)from ok a _ e);exact⟨o,bg_,n,Y,L,h3,by simpa using tT r⟩
def d3t{kvs:ih_}(ok:bv!)(e:Rd H a js!):aE_<=sizeLine/\dH!=false/\
  ∃xs,KT H kvs xs/\h.DictOfH f5_ a xs:=by
 obtain⟨z,y,xs,r,o,es,ep,Y,L,h3,h4,h5⟩:=(show Fg P w H h a js! from d2h ok e);refine⟨z,y,xs,r,o,es,ep,Y,L,h3,h4,aG_,h5⟩;have all:∀{l:ih_} {m:List lQ!},KT H l m->∀x∈m,(f5_).is h x.1 x.2.1:=by
  intro l m q
  induction q with
  |nil=>intro x J;exact nomatch J
  |@cons p q ps qs hq t ih=>
   intro x J;obtain e|J:=HN.mp J
   .subst e;exact a4u ok (by rw[<-hq.1];exact hq.2.1)
   .exact ih x J
 exact all r x J
def yT{kvs:ih_}(ok:bv!)(e:H a=some js!):aE_<=sizeLine/\dH!=false/\
  ∃xs,KT H kvs xs/\h.DictOfH f5_ a xs:=d3t ok (.inl e)
end
section
variable{X:Cx}{h1:List (Addr×Obj)}{Z:St}{H:Hp}{s:yR!}{a:x7!}{y v:V}{u r:x5!}{o:Option V}{A:x6!}{E:Value->Shared->Prop}
def Inv.big(I:d_):sysModules<o_:=by have h:mainGlobals<o_:=(I.mod.glob.keeps I.bk).lt;exact RK b_ h
def c6r{h':Heap}{t':Nat}{ob:HO}(I:d_)(mu:CU (H a))(hs:vr_)(he:∃q,h'.get? a=some q)(new:Fg X.prog X.w (upd H a ob) h' a ob):
  Inv X h1 Z (upd H a ob) {s with heap:=h',toks:=t'}:=
 I.write (x:=a) (e:=a) mu G! (λb q hb z=>(hs.2 b hb).trans z) he new
end
def CT(i:Expr):Prop:=∀ov iv,subscripted i false ov iv=operate [ov,iv] (getItem ov iv)
def c3v{prog:yp!}{w:xV!}{A:x6!}{E:q_}{s:yR!}{value:Expr}{pos:Pos}{T id:String}{Q:q_}
  (hl:typeLookup d3_ "__getitem__"=pure (some e8_))(hs:CT gd)
  (h:wpAny r_ A (eval value env) (λo al=>wpAny r_ A (eval gd env) (λi ao=>ao.TypeIs o T/\wpAny r_ A (getItem o i) Q E ao) E al) E s):
  wpAny r_ A (eval (.Subscript value gd pos) env) Q E s:=by
 refine Subscript_ (KL h (λo al h₁=>KL h₁ (λi ao sw=>?_) λ_ _ x=>x) λ_ _ x=>x);obtain⟨hT,sw⟩:=sw;unfold subscriptTail;refine HI ?_;rw[getitemInPython_of_ne hT.not_modules];refine HI (PQ hT hl ?_);have fin:wpAny r_ A (subscripted gd false o i) (λr dz=>wpAny r_ A (letTemporaryGo value o r>>=λ_=>pure r) Q E dz) E ao:=by
  rw[hs o i];exact wpAny_operating (KL sw (λr dz wf=>HI (wpAny_letTemporaryGo (HK wf))) λ_ _ x=>x)
 first
  |exact HK ju_
  |exact HI (HK ju_)
  |exact HI fin
structure M1(X:Cx)(o:Expr)(m:Str)(aj:Pos)(e:Expr)(ah:Pos):Prop where
 base:attributeBase o m X.env dQ!=eval o X.env
 few:((jv!).all cA!&&(cA_).all cB!
  &&decide (([e]:List Expr).length+(d7!).length+fd!<30))=true
 line:nO_=true
 trees:backTo ah vu_=[e6!]
structure M2(X:Cx)(o:Expr)(m:Str)(aj:Pos)(e f:Expr)(ah:Pos):Prop where
 base:attributeBase o m X.env dQ!=eval o X.env
 few:((backTo ah vv_).all cA!&&(cA_).all cB!
  &&decide (([e,f]:List Expr).length+(d7!).length+fd!<30))=true
 line:nO_=true
 trees:backTo ah vv_=[e6!,(false,eval f X.env)]
end L2
namespace Att
open PySem PySem.W PySem.Calls PyProof.Rows
def vP{P:Params}{h:Heap}:∀(ns:w_) (vs:i_),WellAll P h vs vw!->IntsAre vs ns:=by
 intro ns
 induction ns with
 |nil=>
  intro vs w;rw[MZ]at w;cases w;exact .nil
 |cons n ns ih=>
  intro vs w;rw[HV]at w;cases w with
  |cons a b=>
   cases a;exact .cons _ _ (ih _ b)
def b5x{l:OpenLaw}{n:Nat}(hn:jv_){P:Params}{h:Heap}{args:List WData}
  (wg:l.row.toRowW.claim.pre args=true)(yw:WellAll P h yx args):
  ∃a vs ns,yx=[Value.ref a]/\args=[WData.list vw!]/\h.get? a=some {cls:=.type "list",data:=.seq cy_}/\IntsAre vs ns/\c9!<=n:=by
 have YU:WShape.hasAll [] args [.list .int]=true:=(vw_).1;have hc:l.pre.holds [] {args:=args}=true:=(vw_).2;obtain⟨d,r,rfl,Y,L⟩:=hasAllW_cons YU;obtain rfl:=hasAllW_nil L;obtain⟨xs,rfl,h3⟩:=hasW_list Y;obtain⟨ns,rfl⟩:=items_int h3;have ap:c9!<=n:=by
  unfold OpenLaw.pre at hc;have h4:(WTm.not (.lt (.lit (.int (n:Int))) (.len (.arg 0)))).holds [] {args:=[.list jw!]}=true:=by
   have h4:=(holds_andW hc).1;rw[hn]at h4;exact h4
  have h5:=condW_of h4 (w_not (w_lt w_lit (w_len_list (w_arg rfl))));rw[IK]at h5;refine Nat.le_of_not_lt λq=>?_;have q':(n:Int)<((c9!:Nat):Int):=by omega
  first
   |(rw[IV q']at h5;exact absurd h5 b_)
   |(simp at h5;omega)
 cases yw with
 |cons w1 w2=>
  cases w2;cases w1 with
  |list ho ic=>exact⟨_,_,ns,rfl,rfl,ho,vP ns _ ic,ap⟩
def b6h(l:OpenLaw)(args:List WData):l.row.toRowW.claim.post args gX! args=true:=
 postW_of (r:=l.row.toRowW) (X:=(true==true))
  (show WShape.has [] gX! .bool=true by first|rfl|decide|simp[WShape.has,WShape.arms,WShape.armsAll])
  (show(WTm.eq .res (.lit gX!)).value [] {args:=args,res:=some gX!,after:=args}=some (.bool (true==true))from w_eq_bool (w_res rfl) w_lit) rfl
def a9n{l:OpenLaw}{n:Nat}{XP:nU_}{YP:nV!}{d:DefRec}
  (hn:jv_)(sy:nW!)
  (call:∀(w:xV!) (s₀ al:yR!) (mg mb:z!) (fa:x7!) (o:Obj) (pm cd br:x5!) (a:x7!) (vs:i_) (ns:w_),
   Ground q yz [] XP w s₀ mg mb al.heap->YP w al.heap->
   al.heap.get? fa=some o->o.data=.func (docDef d.name d.params d.body d.scope pm cd br)->al.heap.CodeRec cd d.name->mg d.name=some ff!->
   al.heap.get? a=some {cls:=.type "list",data:=.seq cy_}->IntsAre vs ns->c9!<=n->al.gens=#[]->
   codeAny (model l.prog w) callerA nX! nX_ al):
  WalkO q yz XP YP l.row.toRowW d [] nY!:=by
 intro w s₀ al mg mb G wj fa o pm cd br dV kV ho hd bz hD j6 hg args yx as wg hlay hrd yw hlo;obtain rfl:dV=.none:=Dflts.none hD sy;obtain rfl:kV=.none:=Dflts.noKw hD;obtain⟨a,vs,ns,rfl,rfl,y6,hints,ap⟩:=b5x hn wg yw;refine enter_call (RB (call w s₀ al mg mb fa o pm cd br a vs ns G wj ho (fd_plain hd) bz j6 y6 hints ap hg) λr s' hq=>?_);obtain⟨rfl,L,h3,h4⟩:=hq;exact⟨.inl ⟨nY_,nY_,[],rfl,e4_,nY_,b6h l _,λ_=>⟨jw_,λ_ hm=>(nomatch hm)⟩⟩,L,h3,h4⟩
section
variable{prog:yp!}{w:xV!}{A:x6!}{E:Value->Shared->Prop}{s:yR!}{K:Frag}
end
end Att
namespace L2
open PySem PySem.Spec PyProof.Rows
def a0a:∀{vs:i_} {ns:w_},IntsAre vs ns->Bc b7_ vs
 |_,_,.nil=>.nil
 |_,_,.cons n t h=>.cons gX_ (a0a h)
def Ze(H:Hp):Prop:=∀b,H b=none\/∃o xs,H b=some (.frz o T!)
def c1k{P:yp!}{w:xV!}{K:yS!}{mg mb:z!}{CX:Wt}{k:Nat}{a:x7!}{fd:FuncData}{x:Str}{sp:Sp}{al:yR!}{vs:i_}{ns:w_}
  (KX:K.In al.heap)(UN:al.heap.Ns mainGlobals mg)(hb:al.heap.Ns builtinsNs mb)(YV:∀x:Str,x≠"__name__"->mb x=bootBuiltins x)(YW:al.heap.NoLimit)(hg:al.gens=#[])
  (ha:al.heap.get? a=some {cls:=.type "list",data:=.seq cy_})(hi:IntsAre vs ns)(hl:th!)(hr:nZ!)
  (F:∀base:Heap,K.In base->base.Ns mainGlobals mg->Fq P w K mg base CX k fa fd [x] sp)(YX:∀(s:yR!) (u:x5!),BindsTo s fd jy! [(x,u)])
  (jh:∀H:Hp,Ze H->Fz K H a b7_->sp bl! H jy_ λ_ _ _=>False)
  (s9:∀H e s',CX [] H al nZ_ e s'->False):
  codeAny G_ callerA nX! nX_ al:=by
 have rv:=a0a hi;have YY:=hi.length;have UO:∀H:Hp,Ze H->Fz K H a b7_->Ov P w H al.heap->(∀b,H b≠none->b=a)->(H a≠none->K.lookup a=none)->
   codeAny G_ callerA nX! nX_ al:=by
  intro H hO hS hok hA hK;have UP:∀{b:x7!} {o:Obj},al.heap.get? b=some o->H b=none->(gY!).get? b=some o:=λe n=>c2a e n;have sn:∀{b:x7!} {o:Obj} {es:bP!} {ep:Nat},al.heap.get? b=some o->o.data=.dict es ep->H b=none:=λ{b o es ep} e d=>by
   cases q:H b with
   |none=>rfl
   |some u=>
    have e':b=a:=hA b b9!;subst e';rw[ha]at e;cases e;have d':Data.seq vs.toArray _=Data.dict es ep:=d;cases d'
  have wk:∀{b:x7!} {m:z!},al.heap.Ns b m->(gY!).Ns b m:=λ{b m} ⟨o,es,ep,e,d,r⟩=>⟨o,es,ep,UP e (sn e d),d,r⟩;have UQ:K.In gY!:=λb o e=>UP (KX b o e) (by
   cases q:H b with
   |none=>rfl
   |some u=>
    have e':b=a:=hA b b9!;subst e';rw[hK b9!]at e;cases e)
  have hM:Mod K mg gY!:=⟨UQ,wk UN,⟨mb,wk hb,YV⟩,let⟨mc,Y,L⟩:=YW;⟨mc,wk Y,L⟩⟩;have e0:Rs P w K mg gY! callerA [] al H:=⟨rfl,hM,λb o e=>c5h e,PD (b7h _ _),trivial,λb hb=>absurd (show b∈t4! from hb) d!,hok,.of_eq hg⟩;refine RB ((F _ UQ (wk UN)).run callerA [] al H nW_ bl! bl! _ _ hr e0 (YX al ag!) tU_ (jh H hO hS)) λr s' h=>?_;cases r with
  |error e=>exact(s9 H e s' h).elim
  |ok fl=>
   cases fl with
   |next=>exact False.elim h
   |brk=>exact False.elim h
   |cont=>exact False.elim h
   |ret u=>
    obtain⟨v,H',os,bare,un,YZ,r',q⟩:=h;have q':v=.bl true:=q;subst q';obtain rfl:u=Value.bool true:=r';refine⟨rfl,OldK.of_keep λb o e=>?_,os,bare⟩;cases q:H b with
    |none=>exact un.keep b o e q (by intro z;exact absurd t4_ d!) d!
    |some u=>
     obtain z|⟨ob,xs,z⟩:=hO b
     .rw[q]at z;cases z
     .have z2:=un.frzs b ob _ z;obtain⟨e1,_⟩:=hok b _ z;obtain⟨e2,_⟩:=YZ b _ z2;rw[e]at e1;cases e1;exact e2
 cases hk:K.lookup a with
 |some o=>
  have e:=KX a o hk;rw[ha]at e;cases e;refine UO (λ_=>none) (λ_=>.inl rfl) (.inr ⟨_,cy_,_,hk,rfl,rfl,rfl,by rw[HS,YY];exact hl,by simpa using rv⟩) (λb u z=>by have z':(none:Option HO)=some u:=z;cases z') (λb z=>absurd rfl z) λz=>absurd rfl z
 |none=>
  refine UO (λb=>if b=a then some (.frz {cls:=.type "list",data:=.seq cy_} (.lst b7_))else none) (λb=>?_) (.inl (.inr ⟨{cls:=.type "list",data:=.seq cy_},k_⟩)) (λb u z=>?_) (λb z=>?_) λ_=>hk
  .show"#9"
   .exact .inr ⟨_,_,HY hb⟩
   .exact .inl (HP hb)
  .show"#9"
   .have z':=(HY hb).symm.trans z;cases z';subst hb;exact⟨ha,vD!,vs,_,rv,ha⟩
   .have z':=(HP hb).symm.trans z;cases z'
  .show"#9"
   .exact hb
   .exact absurd (HP hb) z
end L2
namespace L2
open PySem PySem.Spec PyProof.Rows
def c3p{l:W.OpenLaw}{n k:Nat}{XP:nU_}{YP:nV!}{d:DefRec}{K:vD_}{CX:World->Wt}{sp:World->Sp}{x:Str}
  (hn:jv_)(iq:nR!)(sy:nW!)(hr:nZ!)
  (hY:vE!)
  (F:∀(w:xV!) (mg:z!) (fa:x7!) (h:Heap),(bQ!).In h->h.Ns mainGlobals mg->mg d.name=some ff!->
   ∃fd:FuncData,vE_/\
    ∀base:Heap,(bQ!).In base->base.Ns mainGlobals mg->Fq l.prog w bQ! mg base (CX w) k fa fd [x] (sp w))
  (jh:∀(w:xV!) (H:Hp) (a:x7!) (ns:w_),c9!<=n->Ze H->Fz bQ! H a b7_->sp w bl! H jy_ λ_ _ _=>False)
  (s9:∀(w:xV!) (H:Hp) (s:yR!) (e:x5!) (s':yR!),CX w [] H s nZ_ e s'->False):
  W.WalkO q yz XP YP l.row.toRowW d [] nY!:=by
 refine Att.a9n hn sy λw s₀ al mg mb fa o pm cd br a vs ns G wj ho hd bz j6 y6 hints ap hg=>?_;have KX:=hY w _ wj;obtain⟨fd,hb,hF⟩:=F w mg fa _ KX G.T.g j6;exact c1k KX G.T.g G.T.b G.T.builtins G.T.nolimit hg y6 hints (JB ap iq) hr hF hb (λH hO hS=>jh w H a ns ap hO hS) λH e s'=>s9 w H al e s'
def b7z{l:W.OpenLaw}{n k:Nat}{XP:nU_}{YP:nV!}{d:DefRec}{K:vD_}{CX:Wt}{sp:W.Frag->Sp}{x:Str}
  (hn:jv_)(iq:nR!)(sy:nW!)(hr:nZ!)
  (hY:vE!)
  (F:∀(w:xV!) (mg:z!) (fa:x7!) (h:Heap),(bQ!).In h->h.Ns mainGlobals mg->mg d.name=some ff!->
   ∃fd:FuncData,vE_/\
    ∀base:Heap,(bQ!).In base->base.Ns mainGlobals mg->Fq l.prog w bQ! mg base CX k fa fd [x] (sp bQ!))
  (jh:∀(K:yS!) (H:Hp) (a:x7!) (ns:w_),c9!<=n->Ze H->Fz K H a b7_->sp K bl! H jy_ λ_ _ _=>False)
  (s9:∀(H:Hp) (s:yR!) (e:x5!) (s':yR!),CX [] H s nZ_ e s'->False):
  W.WalkO q yz XP YP l.row.toRowW d [] nY!:=
 c3p (K:=K) (CX:=λ_=>CX) (sp:=λw=>sp bQ!) hn iq sy hr hY F (λw H a ns Y L h3=>jh bQ! H a ns Y L h3) λ_ H s e s'=>s9 H s e s'
end L2
namespace L2
open PySem PySem.Spec PyProof.Rows
def Ft(s:Stmt):Arguments:=match s with
 |.FunctionDef _ a _ _ _ _ _ _ _ _=>a
 |_=>{posonlyargs:=[],args:=[],vararg:=none,kwonlyargs:=[],kw_defaults:=[],kwarg:=none,defaults:=[]}
def Dg(s:Stmt):List Stmt:=match s with
 |.FunctionDef _ _ b _ _ _ _ _ _ _=>b
 |_=>[]
def Ad(s:Stmt):Scope:=match s with
 |.FunctionDef _ _ _ _ _ _ sc _ _ _=>sc
 |_=>{kind:=.function,names:=[],isGenerator:=false,isCoroutine:=false}
abbrev Qf:Wt:=λ_ _ _ _ _ _=>False
abbrev E0:XK:=λ_ _ _=>False
def xE{X:Cx}:Mj Qf X E0:=λ_ _ _ _ _ _ _ h=>h.elim
structure Xz(K:yS!)(x qual:Str)(st:Stmt)(f:x7!)(fd:FuncData):Prop where
 ex:∃(oc:x5!) (od:a7_) (kV br pm:x5!) (an:a7_) (ag ct:x5!) (eh:b6_),
  fd=W.fnOf x qual jD_ bQ_ bE_ .none kV br pm an ag ct/\K.lookup f=some ⟨oc,od,.func fd,eh⟩/\W.codeIn K ag qual=true
 kp:W.keepIn K aj_=true
section
variable{P:yp!}{w:xV!}{K:yS!}{mg:Str->Option Value}{base:Heap}
def Xz.ok{x:Str}{st:Stmt}{f:x7!}{fd:FuncData}{ps:q!}{k:Nat}{sp:Sp}(F:vF!)(S:d9_)(len:ua!)
  (p6:∀(ag:x5!) (A:x6!) (outer:ax!) (s:yR!) (H:Hp) (vs:n_) (Q:VK) (E:XK),Al k (A.deeper (envOfC qual bE_ s.heap.objs.size f ag))->sp vs H Q E->
   ∃t,Uq (Ph Qf P w K mg base N qual bE_ f ag A outer s H E).nox bQ_ t/\t {nx:=λ_ H'=>Q .non H',rt:=Q} gK! H):Fq P w K mg base Qf V! f fd ps sp:=by
 show"#+";refine d3p lk bz S len λA outer s H vs Q E hr jh=>?_;obtain⟨t,h,q⟩:=p6 ag A outer s H vs Q E hr jh;exact⟨t,h.nox,q⟩
def Xz.binds{x:Str}{st:Stmt}{f:x7!}{fd:FuncData}{ps:q!}(F:vF!)
  (h:vF_):Fc K fd ps []:=by
 show"#+";exact .all (h kV br pm an ag ct)
def pM{x:Str}{st:Stmt}{f:x7!}{od an:a7_}{eh:b6_}{kV:x5!}(l:vH!)
  (c:jb!)(k:gZ_):Xz K x qual st f n3!:=⟨⟨oc,od,kV,br,pm,an,ag,ct,eh,rfl,l,c⟩,k⟩
end
def b5t{n:Nat}(h:n<=1000):n<sizeLine:=LD h b_
section
variable{X:Cx}
def pv(i:Nat){x:Str}{pos:Pos}(hN:ak_:=by rfl)(hv:cs_:=by first|exact Or.inl rfl|exact Or.inr b!|exact Or.inr aH!)(hd:F_:=by decide)
  (bz:ct!:=by decide):PE X ct_ (BH i):=mH hN hv hd bz
end
def nE{A B:Prop}(h:B):if false=true then A else B:=by rw[HP IN];exact h
def nB{A B:Prop}(h:A):if true=true then A else B:=by rw[k_];exact h
def Bk(H H':Hp):Prop:=∀b o,H b=some o->H' b=some o
def Bk.refl(H:Hp):Bk H H:=λ_ _ h=>h
def Bk.trans{H H1 H2:Hp}(a:Bk H H1)(b:Bk H1 H2):Bk H H2:=λc o h=>b c o (a c o h)
def Bk.free{H H':Hp}(e:fh_){l:x7!}(h:H' l=Option.none):H l=Option.none:=by
 cases q:H l with
 |none=>rfl
 |some o=>
  rw[e l o q]at h;cases h
def Bk.seq{K:yS!}{H H':Hp}{a:x7!}{xs:n_}(e:fh_)(h:Fz K H a xs):Fz K H' a xs:=by
 rcases h with(h|⟨o,h⟩)|h
 .exact vH_
 .exact vI!
 .exact .inr h
end L2
namespace L2
open PySem PySem.Spec PyProof.Rows
def Inv.track{X:Cx}{h1:o!}{Z:St}{H:Hp}{s:yR!}{D:x7!}{ys:n_}{us:i_}{n:Nat}(I:d_)
  (hD:s.heap.get? D=some {cls:=.type "list",data:=.seq us.toArray n})(r:Bc ys us)(hz:jo_)(hn:H D=none)(hs:dI_<=D)(hL:D≠X.env.locals)
  (hc:∀x c,X.env.cells.lookup x=some c->c≠D)(hp:∀p∈X.pn++h1,p.1≠D):Inv X h1 Z (upd H D ba_) s:=by
 have ne:∀b u,H b=some u->b≠D:=λb u e=>cN e hn;refine I.step (g':=s.gens) (d':=s.drawn) (t':=s.toks) (h':=s.heap) (ch:=[D]) ir! (λb o _ _ _ e _=>e) (λb o _ _ _ e _=>vI_) (λb o hc e n=>?_) (λb o _ e=>⟨o,e⟩)
  (λb xs e=>by rw[n4!];exact e) (λb o u e=>by rw[n4!];exact e) (λb ps e=>⟨#[],by rw[n4!,e];simp⟩) n4_ rt! I.bare
 .have e:b=D:=by simpa using hb
  subst e;exact⟨.inr hs,hL,hc,hp⟩
 .rw[n5!];exact n
 .by_cases hb:b=D
  .show"!y";exact⟨hz,us,n,r,hD⟩
  .rw[bD hb]at e;exact(I.hok b u e).stay n5_ (λc q=>by rw[bD (ne c _ q)];exact q) λc xs q=>by rw[bD (ne c _ q)];exact q
nonrec def closOf(cells:bn!):List vJ_->List fi_->List fi_
 |[],acc=>acc
 |(n,k)::r,acc=>if k==.free then closOf cells r ((n,(cells.lookup n).getD 0)::acc)else closOf cells r acc
structure Zh(X:Cx)(scope:Scope)(cl:bn!):Prop where
 eq:closureFor scope X.env=pure cl
 sub:∀x c,cl.lookup x=some c->X.env.cells.lookup x=some c
 all:∀x,scope.names.lookup x=some .free->∃c,cl.lookup x=some c
def uE{env:Env}:∀(names:fj!) (acc:bn!),(∀p∈names,p.2=.free->∃c,env.cells.lookup p.1=some c)->
  (forIn names acc λx r=>(match x with|(name,kind)=>if(kind==g0_)=true then(do let a <-cellOf env name;pure vK_)else pure jF!:Sem vL!))=(pure (closOf env.cells names acc):Sem (List fi_))
 |[],acc,_=>rfl
 |(n,k)::r,acc,h=>by
  rw[NC];cases hk:(k==g0_)with
  |true=>
   obtain⟨c,hc⟩:=h (n,k) HQ vN!;have bv:env.cells.lookup n=some c:=hc;have e:cellOf env n=pure c:=by unfold cellOf;rw[bv]
   have ih:=uE r ((n,c)::acc) λp hp=>h p jF_;have e2:closOf env.cells ((n,k)::r) acc=closOf env.cells r ((n,c)::acc):=by
    show vN_;rw[aP!,bv];rfl
   rw[e2,<-ih];simp only[hk,JT,e];rfl
  |false=>
   have ih:=uE r acc λp hp=>h p jF_;have e2:closOf env.cells ((n,k)::r) acc=closOf env.cells r acc:=by
    show vN_;rw[HP (by rw[hk];exact IN)]
   rw[e2,<-ih];simp only[hk];rfl
def pR(cells:bn!):∀(names:fj!) (acc:bn!),(∀p∈names,p.2=.free->∃c,cells.lookup p.1=some c)->(∀p∈acc,cells.lookup p.1=some p.2)->∀p∈closOf cells names acc,cells.lookup p.1=some p.2
 |[],_,_,h=>h
 |(n,k)::r,acc,hn,h=>by
  unfold closOf;split
  .rename_i hk;obtain⟨c,hc⟩:=hn (n,k) HQ vN!;refine pR cells r _ vO_ λp hp=>?_;obtain rfl|hp:=HN.mp hp
   .have bv:cells.lookup n=some c:=hc;rw[bv];rfl
   .exact h p hp
  .exact pR cells r _ vO_ h
def pU(cells:bn!):∀(names:fj!) (acc:bn!) (x:Str),(∃c,(x,c)∈acc)->∃c,(x,c)∈closOf cells names acc
 |[],_,_,h=>h
 |(n,k)::r,acc,x,h=>by
  unfold closOf;split
  .exact pU cells r _ x (let⟨c,hc⟩:=h;⟨c,HL _ hc⟩)
  .exact pU cells r _ x h
def pT(cells:bn!):∀(names:fj!) (acc:bn!) (x:Str),(x,g0_)∈names->∃c,(x,c)∈closOf cells names acc
 |[],_,_,h=>nomatch h
 |(n,k)::r,acc,x,h=>by
  unfold closOf;obtain h|h:=HN.mp h
  .cases h;rw[g2!];exact pU cells r _ _ ⟨_,HQ⟩
  .split
   .exact vP_
   .exact vP_
def oR{β:Type}:∀{l:List (Str×β)} {x:Str} {c:β},(x,c)∈l->∃d,l.lookup x=some d
 |[],_,_,h=>nomatch h
 |(n,k)::r,x,c,h=>by
  cases J:(x==n)with
  |true=>exact⟨k,by simp[JR,J]⟩
  |false=>
   obtain h|h:=HN.mp h
   .cases h;simp at J
   .obtain⟨d,hd⟩:=oR h;exact⟨d,by simp[JR,J,hd]⟩
def b5d{X:Cx}{scope:Scope}(h:∀p∈ca!,p.2=.free->∃c,X.env.cells.lookup p.1=some c):∃cl,Zh X scope cl:=by
 refine⟨closOf X.env.cells scope.names [],?_,l4_,λx e=>?_⟩
 .have e:=uE (env:=X.env) scope.names [] h;simp only[closureFor];rw[show(forIn scope.names ([]:List fi_) λx r=>(match x with|(name,kind)=>if(kind==NameKind.free)=true then(do let a <-cellOf X.env name;pure vK_)else pure jF!:Sem vL!))=pure (closOf X.env.cells scope.names [])from e];rfl
 .exact pR X.env.cells scope.names [] h rq_ (x,c) (LL e)
 .obtain⟨c,hc⟩:=pT X.env.cells scope.names [] x (LL e);exact oR hc
def Nu(X:Cx)(scope:Scope)(cl:bn!)(C:x7!)(N:q!)(ao:yR!)(bc:Hp)(fp:aw_):Cx:=
 {X with N:=N,s₀:=ao,H₀:=bc,env:=compEnvC scope cl C X.env,outer:=X.stack,stack:=X.stack,ex:=fp,fn:=λ_=>false,pn:=[],xe:=λ_ _=>False}
def mU{env:Env}:∀{names:fj!} {x:Str},(∀y∈names,y.2≠.cell)->
  ((jJ!).lookup x=some .cell\/
     (jJ!).lookup x=some .free)->names.lookup x=some .free
 |[],_,_,h=>by simp at h
 |(n,k)::r,x,hc,h=>by
  have ih:=@mU env r x λy hy=>hc y eb!;have hk:k≠.cell:=hc (n,k) HQ;rw[HV]at h;by_cases hf:n8!=true
  .simp only[hf,JT]at h;cases J:x==n with
   |true=>
    simp only[JR,J];simp only[IZ,NE]at hf;rw[hf.1.1]
   |false=>
    simp only[JR,J]at h ⊢;exact ih h
  .simp only[hf]at h;cases J:x==n with
   |true=>
    simp only[IW,JK,JR,J]at h ⊢;obtain h|h:=h
    .cases h;exact absurd rfl hk
    .exact h
   |false=>
    show"#1";exact ih h
def mV{env:Env}:∀{names:fj!} {x:Str},names.lookup x=some .free->
  ((jJ!).lookup x=some .cell\/
     (jJ!).lookup x=some .free)
 |[],_,h=>by simp at h
 |(n,k)::r,x,h=>by
  have ih:=@mV env r x;rw[HV];by_cases hf:n8!=true
  .simp only[hf,JT];cases J:x==n with
   |true=>exact .inl (by simp[JR,J])
   |false=>
    simp only[JR,J]at h ⊢;exact ih h
  .simp only[hf];cases J:x==n with
   |true=>
    show"#1";exact .inr h
   |false=>
    show"#1";exact ih h
structure Cm(X:Cx)(scope:Scope)(NF:q!)(ix:l!):Prop where
 len:NF.length=ix.length
 at_:∀(k:Nat) (x:Str),NF[k]?=some x->∃j,ix[k]?=some j/\X.N[j]?=some x/\scope.names.lookup x=some .free/\rh_
def Cm.nil{X:Cx}:Cm X scope [] []:=⟨rfl,λk x e=>by simp at e⟩
def Cm.cons{X:Cx}{scope:Scope}{j:Nat}{ix:l!}(h:di!)(Y:vS!:=by rfl)(L:scope.names.lookup x=some .free:=by rfl)
  (h3:X.env.kindOf x=some .cell\/X.env.kindOf x=some .free:=by first|exact Or.inl rfl|exact Or.inr rfl):Cm X scope (x::NF) (j::ix):=
 ⟨by simp[h.len],λk y e=>by
  cases k with
  |zero=>simp at e;subst e;exact⟨j,rfl,Y,L,h3⟩
  |succ k=>simpa using h.at_ k y cV_⟩
def Pv(nl:Nat)(ix:l!)(Z:St):St:=List.replicate nl none++ix.map λj=>(Z[j]?).join
def d0v{X:Cx}{h1:o!}{Z:St}{H2:Hp}{s2:yR!}{scope:Scope}{cl:bn!}{fp:aw_}
  (cm:di_)(cg:dj!)(ce:n8_)(I2:n9!)(f2:n9_)(flt:vS_)(hC:N!<=C):
  (Nu X scope cl C N s2 H2 fp).Ok where
 mod:=I2.ok.mod
 kind:=cm
 glob:=I2.ok.glob
 blt:=I2.ok.blt
 above:=hC
 inj:=λx y c Y L=>I2.ok.inj x y c (ce.sub x c Y) (ce.sub y c L)
 has:=λx h=>ce.all x (mU cg h)
 cab:=λ_ _ h=>nomatch h
 hd:=I2.ok.hd
 frames:=I2.ok.frames
 stk:=.inl rfl
 exf:=λb hb=>⟨JG (IT jK! hC),λx c h=>(iN!).2.2.2.2.1 x c g2_⟩
 bs:=I2.bs
 bsz:=JB I2.ok.bsz I2.sz
 noex:=λb o e hb=>by
  obtain z|z:=(iN!).2.2.2.1
  .exact I2.ok.noex b o e z
  .exact absurd (IT cY! (JB I2.ok.bsz z)) dI!
 exfs:=λb hb hf=>by
  obtain⟨_,f1,f3,_⟩:=f2 b hb;obtain z|z:=HN.mp (I2.stkSub b hf)
  .exact f1 z
  .exact f3 z
 funs:=I2.stack
 frf:=I2.stkFree
def c1y{X:Cx}{h1:o!}{Z:St}{H2:Hp}{s2:yR!}{scope:Scope}{cl:bn!}{D:x7!}{oD:Obj}{NL:q!}{ix:l!}{fp:aw_}{h₁:Heap}{t:Nat}{m:z!}
  (cm:di_)(cg:dj!)(ce:n8_)(cap:di!)(I2:n9!)(f2:n9_)(flt:vS_)
  (hC:N!<=C)(hD:N!<=D)(jl:D≠C)(ar:∀b u,s2.heap.get? b=some u->h₁.get? b=some u)(hn:h₁.Ns C m)(yp:h₁.get? D=some oD)(yq:∀v,oD.data≠.cell v):
  Inv (Nu X scope cl C g3! s2 H2 fp) (dj_++[(D,oD)]) oa! H2 {s2 with heap:=h₁,toks:=t}:=by
 refine⟨d0v cm cg ce I2 f2 flt hC,rfl,I2.bare,Un.kept ar,⟨m,hn,rp_⟩,λx c h=>?_,I2.hok.fresh hC,λx c h=>I2.freeC x c g2_,eM!,I2.hok.kept ar,?_⟩
 .have UR:g3![i]?=some x:=e1;unfold Pv at e2;by_cases hi:i<NL.length
  .rw[KA gK_,OB]at e2;rw[HY hi]at e2;cases e2
  .rw[e7_,JC,NA]at e2;rw[e7_]at UR;obtain⟨j,hj,hN,hf,hk⟩:=cap.at_ _ _ UR;rw[hj]at e2;have wm:(Z[j]?).join=some v:=JJ e2;have e4:Z[j]?=some dJ!:=by
    cases q:Z[j]? with
    |none=>rw[q]at wm;cases wm
    |some o=>rw[q]at wm;exact congrArg some wm
   obtain⟨m2,_,hl⟩:=I2.loc;have hv:Wu X.env.scope x:=hk.elim (λz=>.inr ca_) λz=>.inr fj_;obtain⟨u,r,l⟩:=hl j x v hN e4 hv;refine⟨u,r,.inr ?_⟩;obtain⟨k,_⟩|⟨_,c,hc,z⟩:=l
   .obtain z|z:=hk
    .rw[z]at k;cases k
    .rw[z]at k;cases k
   .obtain⟨c',bv⟩:=ce.all x hf;have e5:=ce.sub x c' bv;rw[hc]at e5;cases e5;obtain⟨o,ho,hd⟩:=z;exact⟨mV hf,c,bv,⟨o,ar _ _ ho,hd⟩⟩
 .obtain⟨v,o,ho,hd⟩:=I2.cell x c g2_;exact⟨v,o,ar _ _ ho,hd⟩
 .have US:∀b,b≠X.env.locals->b∉X.fs->b∉frs X.stack:=λb Y L h3=>(HN.mp (I2.stkSub b h3)).elim Y L;have bx:p∈dj_++[(D,oD)]:=by simpa[Nu]using hp
  obtain bx|bx:=HX.mp bx
  .obtain⟨e,n,ne,nf,d⟩:=I2.pin p bx;exact⟨ar _ _ e,n,JG (IT cY! hC),US _ ne nf,d⟩
  .have e:p=(D,oD):=by simpa using bx
   subst e;exact⟨yp,I2.hok.fresh hD,jl,US _ (MV (IT I2.lt hD)) (I2.nofs hD),yq⟩
 .show(oa!).length=(g3!).length;unfold Pv;rw[IG,IG,IK,NA,cap.len]
def a5l{R:tj_}{E:q_}(I:Nat->Shared->Prop)
  (hE:∀e s',E e s'->notedBy r_ A env (λe s'=>R (.error e) s') e s')
  (turn:∀n s,I n s->wpAny r_ A (pyNext it) (λr al=>match r with
   |none=>R (.ok .next) al
   |some v=>wpAny r_ A (letOwnedTupleGo vz it v) (λ_ UT=>wpAny r_ A (assign vz env v) (λ_ ao=>
     wpAny r_ A (forIn de true λc r=>if r=true then do let ok <-isTrue c env (eval c env);pure vX! else pure jF!) (λok dz=>
      if ok=true then wpAny r_ A (eval ez env) (λx wp=>
       wpAny r_ A (call (.builtin "list.append") [acc,x]) (λ_ UU=>∃m,m<n/\I m UU) E wp) E dz
      else∃m,m<n/\I m dz) E ao) E UT) E al) E s)
  (n:Nat) (h:I n s):codeAny r_ A (.compLoop (.ListComp ez [⟨vz,iter,de,0⟩] scope pos) 0 it acc env) R s:=by
 refine codeAny_loop rfl I (λn s hI=>?_) n h;refine wpAny_noted ?_;rw[compTurn_list];refine HI (QO (HI (KL (turn n s hI) (λr al h₁=>?_) hE)));cases r with
 |none=>exact HK h₁
 |some v=>
  refine HI (KL h₁ (λ_ UT Y0=>?_) hE);refine HI (KL Y0 (λ_ ao sw=>HI (KL sw (λok dz wf=>?_) hE)) hE);cases ok with
  |false=>exact HK ⟨rfl,wf⟩
  |true=>
   exact HI (HI (KL wf (λx wp Y1=>HI (KL Y1 (λ_ UU Y2=>HK (HK ⟨rfl,Y2⟩)) hE)) hE))
def Qd(X:Cx)(de:bK!)(t:TT):Prop:=
 ∀(h1:o!) (s:yR!) (Z:St) (H:Hp) (Q:dK_),Inv X h1 Z H s->t Z H Q->
  wpAny e_ X.A (forIn de true λc r=>if r=true then do let ok <-isTrue c X.env (eval c X.env);pure vX! else pure jF!) iv_ X.xe s
def BI:TT:=λ_ H Q=>Q true H
def a7b{X:Cx}:Qd X [] BI:=λh1 s Z H Q I h=>wpAny_tests_nil ⟨H,I,h⟩
def a7a{X:Cx}{t:TT}(h:PT X c t):Qd X [c] t:=λh1 s Z H Q I hw=>wpAny_tests_one rZ!
def Wg(af:It)(g:TG)(tt:TT)(te:TE)(Fin:c0_)(Z:St)(H:Hp):Prop:=∃W:Nat->Nat->List V->St->Hp->Prop,(∃m,W 0 m [] Z H)/\∀i m ys Z H,W i m ys Z H->ad!<=sizeLine/\
 ((af.stop i H/\Fin ys H)\/(af.go i H/\∀x H',af.yld i H x H'->g x Z H' λdb H2=>tt db H2 λb H3=>if b=true then te db H3 λy H4=>∃m',m'<m/\W a5! m' (ys++[y]) db H4 else∃m',m'<m/\W a5! m' ys db H3))
abbrev Uj(us:i_)(n:Nat):Obj:={cls:=.type "list",data:=.seq us.toArray n}
def a1t{X:Cx}{scope:Scope}{NL:q!}{ix:l!}{cl:bn!}{g:TG}{tt:TT}{te:TE}{E:q_}
  {h1:o!}{Z:St}{H2:Hp}{s2:yR!}{fp:aw_}{tn:dR_}{af:It}{Fin:c0_}{RR:Value->Addr->Result->Shared->Prop}
  (cm:di_)(cg:dj!)(ce:n8_)(cap:di!)(calm:a4!)
  (hg:∀C ao bc fp,PG cb! tg g)(hi:∀C ao bc fp,Qd cb! de tt)(he:∀C ao bc fp,PE cb! ez te)
  (I2:n9!)(T:Tk X.prog X.w X.K tg af fp it tn)(bh:tn 0 s2.heap)(f2:n9_)(hw:Wg af g tt te Fin oa! H2)
  (Y3:∀(D C:x7!) (us:i_) (n:Nat) (ys:n_) (H':Hp) (s':yR!),Inv X h1 Z H' s'->s'.heap.get? D=some (Uj us n)->Bc ys us->ad!<=sizeLine->H' D=none->N!<=D->N!<=C->D≠C->H' C=none->
   (∃m,s'.heap.Ns C m)->Fin ys H'->RR (.ref D) C (.ok .next) s'):
  wpAny e_ X.A (newList []) (λacc dz=>wpAny e_ X.A (newFunctionEnv scope X.env.globals cl [] X.env.qual none .none (some X.env)) (λUV wp=>
   codeAny e_ X.A (.compStart g4_ 0 b4! acc {UV with scope:=relabel scope X.env}) (RR acc UV.locals) wp) E dz) E s2:=by
 obtain⟨W,⟨m0,w0⟩,turn⟩:=hw;have flt:∀b∈fp,b<N!:=λb hb=>let⟨o,e,_⟩:=T.obj _ _ bh b hb;IQ e;refine KO (wpAny_newFunctionEnv cg (by intro y hy;simp at hy) (λh₁ y7 wu=>?_) cm);dsimp only at y7 wu ⊢;generalize iu:s2.heap.push {cls:=.type "list",dict:=none,data:=.seq (v1!).toArray}=G2 at y7 wu ⊢;have hC:g5!=N!+1:=by rw[<-iu,OE]
 have jl:N!≠g5!:=by rw[hC];exact JG (OM _)
 have UW:N!<=g5!:=by rw[hC];exact QB _
 have UX:∀b,b<N!->b≠g5!:=λb hb=>by rw[hC];exact JG (PX hb)
 have ar:∀b o,s2.heap.get? b=some o->h₁.get? b=some o:=λb o e=>wu.extBut b o (UX b cY!) (HM _ (iu▸HM _ e));have Y4:h₁.get? N!=some (Uj [] 0):=wu.extBut _ _ jl (HM _ (iu▸IP _ rfl));have p9:tn 0 h₁:=T.keep _ _ _ bh λb _ o e=>ar b o e;have I1:=c1y (NL:=NL) (t:=s2.toks+(v1_).length) cm cg ce cap I2 f2 flt UW y! jl ar y7 Y4 v2!;have m8:∀{H':Hp} {oD:Obj},gt_->∀b∈fp,Ji ec! (dj_++[(N!,oD)]) H' b:=λ{H' oD} hn b hb=>by
  obtain⟨_,f1,f3,f4,f5,f6⟩:=f2 b hb;refine⟨hn b hb,UX b jK!,λz=>(HN.mp (I2.stkSub b z)).elim f1 f3,.inl hb,λx c h=>f5 x c g2_,eM!⟩;have bx:p∈dj_++[(N!,oD)]:=by simpa[Nu]using hp
  obtain bx|bx:=HX.mp bx
  .exact f6 p bx
  .have e:p=(N!,oD):=by simpa using bx
   subst e;exact MV jK!
 have UY:∀dz:Shared,dz={s2 with heap:=h₁,toks:=s2.toks+(v1_).length}->
   codeAny e_ X.A (.compLoop g4_ 0 b4! (.ref N!) (compEnvC scope cl G2.objs.size X.env)) (RR (.ref N!) g5!) dz:=by
  rintro dz rfl;refine a5l (E:=v4!) (λk s'=>∃i ys us n σ H',Inv ec! (dj_++[jM_]) σ H' s'/\tn i s'.heap/\gt_/\Bc ys us/\W i k ys σ H')
   (λ_ _ z=>z.elim) ?_ m0 ⟨0,[],[],0,_,H2,I1,p9,sB_,.nil,w0⟩
  rintro k s' ⟨i,ys,us,n,σ,H',I',h2,UZ,rv,w'⟩;obtain⟨ap,y8⟩:=turn i k ys σ H' w';obtain⟨stop,fin⟩|⟨go,step⟩:=y8
  .refine dM (T.done ec! rfl rfl rfl calm i _ s' σ H' _ I' (m8 UZ) h2 stop) λr s4 ⟨hr,I4⟩=>?_;subst hr;have U':=I4.pin jM_ (by simp[Nu]);have IX:Inv X h1 Z H' s4:=I2.call' (ch:=fp) I4.os I4.base I4.hok I4.bare λb hb=>by
    obtain⟨_,f1,f3,f4,f5,f6⟩:=f2 b hb;exact⟨f4,f1,f5,f6⟩
   obtain⟨mC,Y5,_⟩:=I4.loc;exact Y3 _ _ us n ys H' s4 IX U'.1 rv ap U'.2.1 y! UW jl I4.free ⟨mC,Y5⟩ fin
  .refine dM (T.item ec! rfl rfl rfl calm i _ s' σ H' _ I' (m8 UZ) h2 go) λr s4 ⟨u,hr,h4⟩=>?_;subst hr;refine dM h4 λ_ s5 ⟨x,H5,I5,r5,y5,m9,yn⟩=>?_;have yo:=I5.pinned (m8 yn) sC!;refine dM (hg _ _ _ _ _ s5 σ H5 x u _ yo r5 sC_) λ_ s6 ⟨li,H6,I6,q6⟩=>?_;refine dM (hi _ _ _ _ _ s6 li H6 _ I6 q6) λok s7 ⟨H7,I7,q7⟩=>?_;have VA:∀{VB:St} {H8:Hp} {s8:yR!},Inv ec! ((dj_++[jM_])++Rj fp s5.heap) VB H8 s8->tn a5! s8.heap/\∀b∈fp,H8 b=none:=λ{VB H8 s8} I8=>by
    refine⟨T.keep _ _ _ m9 λb hb o e=>(v5_).1,bz!⟩;obtain⟨o,e,d⟩:=T.obj _ _ m9 b hb;exact(v5_).2.1
   cases ok with
   |false=>
    simp only[IW,JK]at q7 ⊢;obtain⟨m',hm,w7⟩:=q7;obtain⟨t7,n7⟩:=VA I7;exact⟨m',hm,i+1,ys,us,n,li,H7,iN_,t7,n7,rv,w7⟩
   |true=>
    simp only[JT]at q7 ⊢;refine dM (he _ _ _ _ _ s7 li H7 _ I7 q7) λyv s8 ⟨y,H8,I8,r8,m',hm,w8⟩=>?_;obtain⟨t8,n8⟩:=VA I8;have pD:=I8.pin jM_ (IA _ (IS _ d!));have Y6:aw!=ad!:=rv.length.symm;refine wpAny_list_append_plain (items:=cD!) (hsz:=by simpa[Y6]using ap) ⟨n,pD.1⟩ λh9 Y7 VC=>?_;obtain⟨n9,e9⟩:=Y7;have Y8:Inv ec! dj_ li H8 s8:=I8.pins_of λp hp=>I8.pin p (IA _ (IS _ (IS _ hp)));have I9:Inv ec! dj_ li H8 {s8 with heap:=h9,toks:=s8.toks}:=by
     refine Y8.turned (it:=N!) (λb o hb e=>(VC.2 b hb).trans e) pD.2.1 jl (.inr y!) (λx c h=>?_) λp hp=>?_
     .obtain⟨v,o,ho,_⟩:=I2.cell x c g2_;exact JG in!
     .have bx:p∈X.pn++h1:=by simpa[Nu]using hp
      exact JG (IQ (I2.pin p bx).1)
    have Y9:h9.get? N!=some (Uj (us++[yv]) n9):=by
     rw[e9,List.push_toArray]
    refine⟨m',hm,i+1,ys++[y],us++[yv],n9,li,H8,I9.pins_of λp hp=>?_,T.keep _ _ _ t8 λb hb o e=>(VC.2 b (JG jK!)).trans e,n8,rv.append (.cons r8 .nil),w8⟩;obtain hp|hp:=HX.mp hp
    .exact I9.pin p (IA _ hp)
    .have e:p=(N!,Uj (us++[yv]) n9):=by simpa using hp
     subst e;exact⟨Y9,pD.2.1,pD.2.2.1,pD.2.2.2.1,jN_⟩
 exact codeAny_compStart_list (UY _ rfl) (T.self _ 0 _ _ _ p9 (UY _ rfl))
def Zn(nl:Nat)(ix:l!)(wi:TI)(g:TG)(tt:TT)(te:TE):TE:=λZ H Q=>wi Z H λaf H1=>Wg af g tt te (λys H'=>∀p,H' p=none->Q da! (upd H' p ba_)) (Pv nl ix Z) H1
def b3w{X:Cx}{scope:Scope}{NL:q!}{ix:l!}{wi:TI}{g:TG}{tt:TT}{te:TE}
  (cm:di_)(cg:dj!)(j7:∀y∈ca!,y.2=.local->scope.names.lookup y.1=some .local)
  (io:g5_)(cap:di!)(calm:a4!)(be:mL_)
  (hg:g6!)(hi:v8!)(he:v8_)
  (hs:c7!:=by intro _;rfl):
  PE X g4_ v9!:=by
 show"!K";show"!R"
 rw[eval_ListComp];refine wpAny_comprehension_free (use:=none) rfl hs ce.eq cm j7 v9_;obtain⟨it,fp,tn,af,H2,e,I2,T,bh,f2,hw⟩:=L;subst e;refine a1t (RR:=λacc C=>compPost e_ X.A X.xe none aM! acc C) cm cg ce cap calm (hg cl) (hi cl) (he cl) I2 T bh f2 hw λD C us n ys H' s' I' eD rv ap nD hD hC jl nC ⟨m,hn⟩ fin=>?_;refine⟨m,hn,λh' b6=>?_⟩;have fw:∀b,b<N!->b≠C/\b≠D:=λb hb=>wa!;have qc:∀x c,X.env.cells.lookup x=some c->c<N!:=λx c h=>let⟨_,_,ho,_⟩:=I2.cell x c h;IQ ho;have td:∀p∈X.pn++h1,p.1<N!:=λp hp=>IQ (I2.pin p hp).1;have IC:Inv X h1 Z H' {s' with heap:=h',toks:=s'.toks}:=I'.turned (it:=C) wb! nC (HR (g7_).1) wc! wd! λp hp=>(jP!).1;have ID:=IC.track (D:=D) (us:=us) (n:=n) ((b6.2 D jl).trans eD) rv ap nD (JB I2.sz hD) (HR (g7_).2) wd_ λp hp=>(jP!).2;exact⟨.ref D,_,ID,rfl,fin D nD⟩
end L2
namespace DL
open PySem PySem.Spec PyProof.Rows L2
abbrev St:=L2.St
inductive D where
 |non|bl (b:Bool)|int (i:Int)|str (x:Str)|tup (xs:c!)|lst (xs:c!)|fn (a:x7!)|dk (kvs:ok_)
mutual
noncomputable def Ax(K:yS!)(H:Hp):D->V->Prop
 |.non,v=>v=V.non
 |.bl b,v=>v=V.bl b
 |.int i,v=>v=V.int i
 |.str x,v=>v=V.str x
 |.tup xs,v=>∃a vs,v=V.ref a/\Gf K H a vs/\An K H xs vs
 |.lst xs,v=>∃a vs,v=V.ref a/\Fz K H a vs/\An K H xs vs
 |.fn a,v=>v=V.ref a
 |.dk kvs,v=>∃a,v=V.ref a/\Rd H a dY!
noncomputable def An(K:yS!)(H:Hp):List D->List V->Prop
 |[],vs=>vs=[]
 |d::ds,vs=>∃v r,vs=v::r/\Ax K H d v/\An K H ds r
end
mutual
noncomputable def Ei:D->Bool
 |.lst _=>false
 |.dk _=>false
 |.tup xs=>Fj xs
 |_=>true
noncomputable def Fj:List D->Bool
 |[]=>true
 |d::ds=>Ei d&&Fj ds
end
mutual
noncomputable def Il:D->Nat
 |.lst xs=>Dq xs+1
 |.tup xs=>Dq xs+1
 |_=>0
noncomputable def Dq:List D->Nat
 |[]=>0
 |d::ds=>max (Il d) (Dq ds)
end
section
variable{K:yS!}{H H':Hp}
mutual
theorem Ax.map(ht:jP_)(hl:wf!)(hd:wf_):∀(d:D) (v:V),Ax K H d v->Ax K H' d v
 |.non,_,h=>h
 |.bl _,_,h=>h
 |.int _,_,h=>h
 |.str _,_,h=>h
 |.tup xs,_,h=>by
  show"!U";exact⟨a,vs,e,ht a vs q,wg!⟩
 |.lst xs,_,h=>by
  show"!U";exact⟨a,vs,e,hl a vs q,wg!⟩
 |.fn _,_,h=>h
 |.dk kvs,_,h=>by
  unfold Ax at h ⊢;obtain⟨a,e,q⟩:=h;exact⟨a,e,hd a kvs q⟩
theorem An.map(ht:jP_)(hl:wf!)(hd:wf_):∀(ds:c!) (vs:n_),An K H ds vs->An K H' ds vs
 |[],_,h=>h
 |d::ds,_,h=>by
  unfold An at h ⊢;obtain⟨v,r,e,q,t⟩:=h;exact⟨v,r,e,Ax.map ht hl hd d v q,An.map ht hl hd ds r t⟩
end
mutual
theorem Ax.mapT(ht:jP_):∀(d:D) (v:V),Ei d=true->Ax K H d v->Ax K H' d v
 |.non,_,_,h=>h
 |.bl _,_,_,h=>h
 |.int _,_,_,h=>h
 |.str _,_,_,h=>h
 |.tup xs,_,n,h=>by
  unfold Ei at n;show"!U";exact⟨a,vs,e,ht a vs q,An.mapT ht xs vs n r⟩
 |.lst xs,_,n,_=>by
  unfold Ei at n;cases n
 |.fn _,_,_,h=>h
 |.dk _,_,n,_=>by
  unfold Ei at n;cases n
theorem An.mapT(ht:jP_):∀(ds:c!) (vs:n_),Fj ds=true->An K H ds vs->An K H' ds vs
 |[],_,_,h=>h
 |d::ds,_,n,h=>by
  unfold Fj at n;rw[IZ]at n;unfold An at h ⊢;obtain⟨v,r,e,q,t⟩:=h;exact⟨v,r,e,Ax.mapT ht d v n.1 q,An.mapT ht ds r n.2 t⟩
end
def cD(e:fh_){a:x7!}(h:Gf K H a xs):Gf K H' a xs:=by
 rcases h with(h|⟨o,h⟩)|h
 .exact vH_
 .exact vI!
 .exact .inr h
def b3e(e:fh_){a:x7!}{o:HO}(h:Rd H a o):Rd H' a o:=by
 obtain h|⟨u,h⟩:=h
 .exact .inl (e _ _ h)
 .exact .inr ⟨u,e _ _ h⟩
def Ax.mono(e:fh_)(h:ha_):Ax K H' d v:=Ax.map wh! wh_ wi! d v h
def An.mono(e:fh_)(h:cD_):An K H' ds vs:=An.map wh! wh_ wi! ds vs h
def Ax.non:Ax K H .non V.non:=by unfold Ax;rfl
def Ax.bl{b:Bool}:Ax K H bK_ (V.bl b):=by unfold Ax;rfl
def Ax.int{i:Int}:Ax K H bx! (V.int i):=by unfold Ax;rfl
def Ax.str:Ax K H dL! (V.str x):=by unfold Ax;rfl
def Ax.fn{a:x7!}:Ax K H cE! fl_:=by unfold Ax;rfl
def Ax.tup{a:x7!}(h:Gf K H a vs)(r:cD_):Ax K H dm! fl_:=by unfold Ax;exact wi_
def Ax.lst{a:x7!}(h:Fz K H a vs)(r:cD_):Ax K H cd! fl_:=by unfold Ax;exact wi_
def An.nil:An K H [] []:=by unfold An;rfl
def An.cons(h:ha_)(t:cD_):An K H ee_ (v::vs):=by unfold An;exact⟨v,vs,rfl,h,t⟩
def aL:∀{ds:c!} {vs:n_},An K H ds vs->h!=bB!
 |[],vs,h=>by unfold An at h;subst h;rfl
 |d::ds,vs,h=>by
  unfold An at h;obtain⟨v,r,e,_,t⟩:=h;rw[e,IE,IE,aL t]
def iT:∀{ds:c!} {vs:n_} {i:Nat} {d:D},An K H ds vs->ds[i]?=some d->∃v,vs[i]?=some v/\Ax K H d v
 |[],_,_,_,_,e=>by simp at e
 |c::ds,vs,i,d,h,e=>by
  unfold An at h;obtain⟨v,r,e1,q,t⟩:=h;subst e1;cases i with
  |zero=>simp at e;subst e;exact⟨v,rfl,q⟩
  |succ i=>
   obtain⟨u,Y,L⟩:=iT (i:=i) (d:=d) t cV_;exact⟨u,ig!,L⟩
def dG:∀{ds es:c!} {vs ws:n_},An K H ds vs->An K H es ws->An K H (ds++es) (vs++ws)
 |[],_,_,_,h,k=>by unfold An at h;subst h;exact k
 |c::ds,_,vs,_,h,k=>by
  show"!M";exact An.cons q (dG t k)
def sO:∀{ds:c!} {vs:n_} (n:Nat),An K H ds vs->An K H (ds.take n) (vs.take n)
 |_,_,0,_=>An.nil
 |[],_,n+1,h=>by unfold An at h;subst h;exact An.nil
 |c::ds,vs,n+1,h=>by
  show"!M";exact An.cons q (sO n t)
def sP:∀{ds:c!} {vs:n_} (n:Nat),An K H ds vs->An K H ol_ (vs.drop n)
 |_,_,0,h=>h
 |[],_,n+1,h=>by unfold An at h;subst h;exact An.nil
 |c::ds,vs,n+1,h=>by
  show"!M";exact sP n t
def xA(hd:ha_):∀{ds:c!} {vs:n_} (n:Nat),An K H ds vs->An K H (ds.set n d) (vs.set n v)
 |[],_,_,h=>by unfold An at h;subst h;exact An.nil
 |c::ds,vs,n,h=>by
  unfold An at h;obtain⟨u,r,e1,q,t⟩:=h;subst e1;cases n with
  |zero=>exact An.cons hd t
  |succ n=>exact An.cons q (xA hd n t)
def cS(h:An K H [] vs):vs=[]:=by unfold An at h;exact h
def bR(h:An K H ee_ vs):∃v r,vs=v::r/\Ax K H d v/\An K H ds r:=by unfold An at h;exact h
def bS(h:Ax K H dm! v):∃a vs,v=V.ref a/\Gf K H a vs/\An K H ds vs:=by unfold Ax at h;exact h
def bT(h:Ax K H cd! v):∃a vs,v=V.ref a/\Fz K H a vs/\An K H ds vs:=by unfold Ax at h;exact h
def bG{i:Int}(h:Ax K H bx! v):v=V.int i:=by unfold Ax at h;exact h
def dA{i:Bool}(h:Ax K H (.bl i) v):v=V.bl i:=by unfold Ax at h;exact h
def cI(h:Ax K H jQ_ v):v=V.str i:=by unfold Ax at h;exact h
def eH(h:Ax K H .non v):v=V.non:=by unfold Ax at h;exact h
def gD{a:x7!}(h:Ax K H cE! v):v=V.ref a:=by unfold Ax at h;exact h
def c8n{kvs:ok_}(h:Ax K H (.dk kvs) v):∃a,v=V.ref a/\Rd H a dY!:=by unfold Ax at h;exact h
def iS{o:HO}(h:cE_):Bk H fm!:=λb u e=>by rw[bD (cN e h)];exact e
def fZ(h:cE_)(r:cD_):Ax K (upd H p (.tup vs)) dm! om!:=Ax.tup (Gf.of cC) wl_
def dR(h:cE_)(r:cD_):Ax K jR! cd! om!:=Ax.lst (Fz.of cC) wl_
end
structure Co(G H G' H':Hp):Prop where
 g:Bk G G'
 h:Bk H H'
 sub:Bk G' H'
 new:∀b,G' b≠none->G b≠none\/H b=none
def Co.refl{G H:Hp}(s:K_):Co G H G H:=⟨fm_,Bk.refl H,s,ef_⟩
def Co.trans{G H G1 H1 G2 H2:Hp}(a:Co G H G1 H1)(b:Co G1 H1 G2 H2):Co G H G2 H2:=
 ⟨a.g.trans b.g,a.h.trans b.h,b.sub,λc h=>(b.new c h).elim (λz=>a.new c z) λz=>.inr (a.h.free z)⟩
def Co.laid{G H:Hp}{o:HO}(s:K_)(hp:cE_):Co G H (upd G p o) fm!:=by
 refine⟨iS (s.free hp),iS hp,jR_,bo_⟩
 .by_cases hb:b=p
  .subst hb;rw[cC]at e ⊢;exact e
  .rw[bD hb]at e ⊢;exact s b u e
 .by_cases hb:b=p
  .subst hb;exact .inr hp
  .rw[bD hb]at h;exact .inl h
abbrev Ae:=List (Option D)
structure OR(K:yS!)(own:l!)(G H:Hp)(Z:St)(ρ:Ae):Prop where
 sub:Bk G H
 len:hb!=f9!
 at_:∀(i:Nat) (d:D),ρ[i]?=some eg!->i∉own->∃v,Z[i]?=some dJ!/\Ax K G d v
 own_:∀i∈own,∃p ds vs,ρ[i]?=some on_/\Z[i]?=some ce!/\H p=some dm_/\G p=none/\An K G ds vs
 dis:∀i∈own,∀j∈own,i≠j->∀p q,Z[i]?=some ce!->Z[j]?=some (some (V.ref q))->p≠q
def OR.grow{K:yS!}{own:l!}{G H G' H':Hp}{Z:St}{ρ:Ae}(h:ce_)(x:jS!):OR K own G' H' Z ρ where
 sub:=x.sub
 len:=h.len
 at_:=λi d q n=>let⟨v,Y,L⟩:=h.at_ i d q n;wn!
 own_:=λi hi=>by
  obtain⟨p,ds,vs,Y,L,h3,h4,h5⟩:=h.own_ i hi;refine⟨p,ds,vs,Y,L,x.h _ _ h3,?_,h5.mono x.g⟩;cases q:G' p with
  |none=>rfl
  |some o=>
   rcases x.new p b9! with z|z
   .exact absurd h4 z
   .rw[h3]at z;cases z
 dis:=h.dis
def OR.set{K:yS!}{own:l!}{G H:Hp}{Z:St}{ρ:Ae}{i:Nat}(h:ce_)(hi:bp!)(r:cF_):OR K own G H eN! cf! where
 sub:=h.sub
 len:=by rw[LO,LO,h.len]
 at_:=λj c q n=>by
  by_cases hj:i=j
  .subst hj;by_cases hi:i<hb!
   .rw[KC hi]at q;cases q;exact⟨v,by rw[KC (by rw[<-h.len];exact hi)],r⟩
   .rw[JW (by rw[LO];omega)]at q;cases q
  .rw[JE hj]at q;rw[JE hj];exact h.at_ j c q n
 own_:=λj hj=>by
  have ne:i≠j:=λe=>hi (e▸hj);rw[JE ne,JE ne];exact h.own_ j hj
 dis:=λj hj k hk b8 p q e1 e2=>by
  have ne:i≠j:=λe=>hi (e▸hj);have Y':i≠k:=λe=>hi (e▸hk);rw[JE ne]at e1;rw[JE Y']at e2;exact h.dis j hj k hk b8 p q e1 e2
def Ka(own:l!)(Z:St):List Addr:=own.filterMap λi=>match Z[i]? with|some (some (V.ref p))=>some p|_=>none
def nZ{own:l!}{Z:St}(h:p∈Ka own Z):∃i∈own,Z[i]?=some ce!:=by
 obtain⟨i,hi,e⟩:=MO.mp h;refine⟨i,hi,?_⟩;show"!6"
 .rename_i q he;cases e;exact he
 .cases e
def a6p{own:l!}{Z:St}{i:Nat}(hi:eh!)(h:wp!):p∈Ka own Z:=MO.mpr ⟨i,hi,by rw[h]⟩
def Lf(own:l!)(Z:St)(G H:Hp):Hp:=λb=>if b∈Ka own Z then H b else G b
def OR.full{K:yS!}{own:l!}{G H:Hp}{Z:St}{ρ:Ae}(h:ce_):OR K [] fo! H Z ρ:=by
 have s1:Bk G fo!:=λb o e=>by
  unfold Lf;split
  .exact h.sub b o e
  .exact e
 have s2:Bk fo! H:=λb o e=>by
  unfold Lf at e;show"!6"
  .exact e
  .exact h.sub b o e
 refine⟨s2,h.len,op!,as!,as!⟩;by_cases hi:i∈own
 .obtain⟨p,ds,vs,Y,L,h3,h4,h5⟩:=h.own_ i hi;rw[Y]at q;cases q;refine⟨_,L,Ax.lst (Fz.of (xs:=vs) ?_) (h5.mono s1)⟩;unfold Lf;rw[HY (a6p hi L)];exact h3
 .obtain⟨v,Y,L⟩:=h.at_ i d q hi;exact⟨v,Y,L.mono s1⟩
def Le(ρ ρ':Ae):Prop:=hb!=ρ'.length/\∀(i:Nat) (d:D),ρ[i]?=some eg!->ρ'[i]?=some eg!
def OR.le{K:yS!}{G H:Hp}{Z:St}{ρ ρ':Ae}(h:OR K [] G H Z ρ')(l:Le ρ ρ'):OR K [] G H Z ρ:=⟨h.sub,l.1.trans h.len,λi d q n=>h.at_ i d (l.2 i d q) n,as!,as!⟩
def Le.set{ρ ρ':Ae}{i:Nat}(h:Le ρ ρ')(hi:ρ[i]?=some none):Le ρ (ρ'.set i eg!):=by
 refine⟨by rw[LO];exact h.1,λj c q=>?_⟩;have:i≠j:=λe=>by subst e;rw[hi]at q;cases q
 rw[JE this];exact h.2 j c q
def Le.refl(ρ:Ae):Le ρ ρ:=⟨rfl,λ_ _ h=>h⟩
def Tj(nl:Nat)(ix:l!)(ρ:Ae):Ae:=List.replicate nl none++ix.map λj=>(ρ[j]?).join
def OR.cap{K:yS!}{own:l!}{G H:Hp}{Z:St}{ρ:Ae}(h:ce_)(nl:Nat)(ix:l!)(J:jT!):OR K [] G H (Pv nl ix Z) hc!:=by
 unfold Pv Tj;refine⟨h.sub,H!,op!,as!,as!⟩;by_cases hi:i<nl
 .rw[KA gK_,OB,HY hi]at q;cases q
 .rw[e7_,JC,NA]at q;rw[e7_,JC,NA];cases e:ix[i - nl]? with
  |none=>rw[e]at q;cases q
  |some j=>
   rw[e]at q;have q':(ρ[j]?).join=some d:=JJ q;have q2:ρ[j]?=some eg!:=by
    cases z:ρ[j]? with
    |none=>rw[z]at q';cases q'
    |some o=>rw[z]at q';exact congrArg some q'
   obtain⟨v,Y,L⟩:=h.at_ j d q2 (J j (NP e));exact⟨v,by simp[Y],L⟩
inductive tD(K:yS!)(own:l!)(f:e!)(Z:St)(H:Hp)(Q:VK):Prop
 |mk (G:Hp) (ρ:Ae) (d:D) (o:ce_) (e:cf_) (k:∀v G' H',Co G H G' H'->Ax K G' d v->Q v H'):tD K own f Z H Q
inductive FW(K:yS!)(own:l!)(f:as_)(Z:St)(H:Hp)(Q:c0_):Prop
 |mk (G:Hp) (ρ:Ae) (ds:c!) (o:ce_) (e:f ρ=some ds) (k:∀vs G' H',Co G H G' H'->An K G' ds vs->Q vs H'):FW K own f Z H Q
inductive Zy(K:yS!)(own:l!)(f:ah_)(Z:St)(H:Hp)(Q:dK_):Prop
 |mk (G:Hp) (ρ:Ae) (b:Bool) (o:ce_) (e:f ρ=some b) (k:∀G' H',Co G H G' H'->Q b H'):Zy K own f Z H Q
structure DE(X:Cx)(own:l!)(e:Expr)(f:e!):Prop where
 ok:PE X e (tD X.K own f)
structure DA(X:Cx)(own:l!)(es:bK!)(f:as_):Prop where
 ok:PA X es (FW X.K own f)
structure DT(X:Cx)(own:l!)(e:Expr)(f:ah_):Prop where
 ok:PT X e rI!
structure DW(X:Cx)(own:l!)(e:Expr)(f:ah_):Prop where
 ok:PW X e rI!
section
variable{X:Cx}{own:List Nat}{e a b c:Expr}{es:List Expr}{pos:Pos}{f fa fb fc:Ae->Option D}{fs:Ae->Option (List D)}{ft fu:Ae->Option Bool}
def eX{t:TE}(h:ix_)(hw:∀Z G H Q ρ d,OR X.K own G H Z ρ->f ρ=some d->(∀v G' H',Co G H G' H'->Ax X.K G' d v->Q v H')->t Z H Q):DE X own e f:=ws!
def c2y{t:TA}(h:gG_)(hw:∀Z G H Q ρ d,OR X.K own G H Z ρ->fs ρ=some d->(∀v G' H',Co G H G' H'->An X.K G' d v->Q v H')->t Z H Q):DA X own es fs:=⟨λp h1 s Z H Q I ⟨G,ρ,d,er,e,k⟩=>h p h1 s Z H Q I or_⟩
def yT{t:TT}(h:PT X e t)(hw:wt!):DT X own e ft:=ws!
def c7x{t:TT}(h:PW X e t)(hw:wt!):DW X own e ft:=⟨λwh h1 s Z H Q I ⟨G,ρ,d,er,e,k⟩=>h wh h1 s Z H Q I or_⟩
def Oq(f:e!):Ae->Option D:=λρ=>(an_).bind λd=>if Ei d then some d else none
def b5a(h:DE X [] e f):DE X own e (Oq f):=eX h.ok λZ G H Q ρ d er e k=>by
 obtain⟨d',e1,e2⟩:=HJ.mp e;split at e2
 .rename_i hn;cases e2;refine⟨Lf own Z G H,ρ,d,er.full,e1,λv G' H' x r=>?_⟩;have ZA:∀b,b∈Ka own Z->∃vs,G' b=some dm_:=λb hb=>by
   show"!N";refine⟨vs,x.g _ _ ?_⟩;unfold Lf;rw[HY hb];exact h3
  have hG:∀b,b∈Ka own Z->G b=none:=λb hb=>by
   show"!N";exact h4
  refine k v (λb=>if b∈Ka own Z then none else G' b) H' ⟨λb o z=>?_,x.h,λb o z=>?_,λb z=>?_⟩ (Ax.mapT (λa vs q=>?_) d v hn r)
  .have hb:b∉Ka own Z:=λhb=>by rw[hG b hb]at z;cases z
   show ot!=some o;rw[HP hb];refine x.g _ _ ?_;unfold Lf;rw[HP hb];exact z
  .have z':ot!=some o:=z;split at z'
   .cases z'
   .exact x.sub _ _ z'
  .have z':ot!≠none:=z;split at z'
   .exact absurd rfl z'
   .rename_i hb;obtain y|y:=x.new b z'
    .unfold Lf at y;rw[HP hb]at y;exact .inl y
    .exact .inr y
  .have ne:∀u,G' a=some u->(∀ws,u≠.lst ws)->(if a∈Ka own Z then none else G' a)=some u:=λu e1 hu=>by
    rw[HP (λhb=>by obtain⟨ws,e2⟩:=ZA a hb;rw[e1]at e2;exact hu ws (JJ e2))];exact e1
   rcases q with(q|⟨o,q⟩)|q
   .exact .inl (.inl (ne _ q λ_ z=>nomatch z))
   .exact .inl (.inr ⟨o,ne _ q λ_ z=>nomatch z⟩)
   .exact .inr q
 .cases e2
def Aa(i:Nat):Ae->Option D:=λρ=>(ρ[i]?).join
nonrec def fC(d:D):Ae->Option D:=λ_=>some d
def join_some{ρ:Ae}{i:Nat}(h:(ρ[i]?).join=some d):ρ[i]?=some eg!:=by
 cases z:ρ[i]? with
 |none=>rw[z]at h;cases h
 |some o=>rw[z]at h;exact congrArg some h
def aA(i:Nat){x:Str}(hi:bp!:=by decide)(hN:ak_:=by rfl)(hv:cs_:=by first|exact Or.inl rfl|exact Or.inr b!|exact Or.inr aH!)(hd:F_:=by decide)
  (bz:ct!:=by decide):DE X own ct_ (Aa i):=
 eX jU_ λZ G H Q ρ d er e k=>let⟨v,Y,L⟩:=er.at_ i d (join_some e) hi;⟨v,Y,k v G H hc_ L⟩
def c2x{t:TE}(h:ix_)(ht:∀Z H Q,Q v H->t Z H Q)(r:∀H,Ax X.K H d v):DE X own e (fC d):=
 eX h λZ G H Q ρ d' er e' k=>by
  cases e';exact ht Z H Q (k v G H hc_ (r G))
def aD{i:Int}{j:Nat}:DE X own rP_ (fC bx!):=c2x c8w hd! λ_=>Ax.int
def aS{j:Nat}:DE X own (.Constant jQ_ j pos) (fC jQ_):=c2x b9u hd! λ_=>Ax.str
def eE{i:Bool}{j:Nat}:DE X own (.Constant (.bool i) j pos) (fC (.bl i)):=c2x d2o hd! λ_=>Ax.bl
def dJ{j:Nat}:DE X own rR! cg!:=c2x c8v hd! λ_=>Ax.non
def c6o{x:Str}{i:Int}(hg:Y_)(hm:X.mg x=some dE_)(hd:F_:=by decide):DE X own ct_ (fC bx!):=
 c2x (c4y (v:=V.int i) hg hm gX_ hd) hd! λ_=>Ax.int
nonrec def f2(g:bd!)(fa fb:e!):Ae->Option D:=λρ=>(fp_).bind λx=>(jW_).bind λy=>g x y
def Im(K:yS!)(r:R2)(g:bd!):Prop:=∀{x y:V} {dx dy d:D} {G H:Hp} {Q:VK},Bk G H->Ax K G dx x->Ax K G dy y->g dx dy=some d->jX!->r x y H Q
def two{g:bd!}{r:R2}(hg:ek!){Z:St}{G H:Hp}{Q:VK}{ρ:Ae}(er:OR X.K own G H Z ρ)(e:f2 g fa fb ρ=some d)(k:∀v G' H',Co G H G' H'->Ax X.K G' d v->Q v H'):
  BD r (tD X.K own fa) (tD X.K own fb) Z H Q:=by
 unfold f2 at e;show"!<";obtain⟨y,e2,e⟩:=HJ.mp e;exact⟨G,ρ,x,er,e1,λu G1 H1 s1 r1=>⟨G1,ρ,y,dn_,e2,λw G2 H2 s2 r2=>hg s2.sub he! r2 e λv G' H' s3 r3=>k v G' H' (s1.trans he_) r3⟩⟩
def aY{op:Operator}{r:R2}{g:bd!}(ho:mO_)(hg:ek!)(ha:aa!)(hb:cG_):DE X own mP! jY_:=
 eX sr_ λZ G H Q ρ d er e k=>two hg er e k
def fX{op:CmpOp}{r:R2}{g:bd!}(ho:b5_)(hg:ek!)(ha:aa!)(hb:cG_)(hm:dL_):DE X own dM! jY_:=
 eX ww_ λZ G H Q ρ d er e k=>two hg er e k
def aN{r:R2}{g:bd!}(hr:Ws X r)(hg:ek!)(ha:aa!)(hb:cG_)(hs:Qh b):DE X own nH_ jY_:=
 eX wx! λZ G H Q ρ d er e k=>two hg er e k
nonrec def fT(f:e!):Ae->Option Bool:=λρ=>(an_).bind λd=>match d with|.bl b=>some b|_=>none
def lE{ρ:Ae}{b:Bool}(h:fT f ρ=some b):f ρ=some bK_:=by unfold fT at h;obtain⟨d,e,h⟩:=HJ.mp h;cases d<;>first|(cases h;exact e)|cases h
def bM{op:CmpOp}{r:R2}{g:bd!}(ho:b5_)(hg:ek!)(ha:aa!)(hb:cG_)(hm:dL_):DT X own dM! (fT jY_):=
 yT wx_ λZ G H Q ρ d er e k=>two (own:=own) (Q:=wy!) hg er (lE e) λv G' H' s' r'=>by
  cases dA r';exact wz!
def fJ(h:do_)(he:iy!:=by intro _;rfl):DT X own e (fT f):=
 yT (b9e h.ok he) λZ G H Q ρ d er e k=>⟨G,ρ,.bl d,er,lE e,λv G' H' s' r'=>by
  cases dA r';exact wz!⟩
def Va:D->Option Bool
 |.lst xs=>some (! dX_)
 |.tup xs=>some (! dX_)
 |.bl b=>some b
 |.int i=>some gy_
 |.non=>some false
 |_=>none
def vA{K:yS!}{H:Hp}{ds:c!}{vs:n_}(h:cD_):(!ds.isEmpty)=!vs.isEmpty:=by have:=aL h;cases ds<;>cases vs<;>simp_all
def a8y(h:do_)(he:iy!:=by intro _;rfl):DT X own e (λρ=>(an_).bind Va):=
 yT (b9f h.ok he) λZ G H Q ρ b er e k=>by
  obtain⟨d,e1,e2⟩:=HJ.mp e;refine⟨G,ρ,d,er,e1,λv G' H' s' r'=>⟨b,?_,ow_⟩⟩;cases d with
  |non=>cases eH r';cases e2;exact(rfl:false=false)
  |bl x=>cases dA r';cases e2;exact rfl
  |int i=>cases bG r';cases e2;exact(rfl:gy_=gy_)
  |str x=>cases e2
  |fn a=>cases e2
  |dk a=>cases e2
  |tup xs=>
   obtain⟨a,vs,e3,q,r3⟩:=bS r';subst e3;cases e2;exact .inr (.inl ⟨vs,cD s'.sub q,vA r3⟩)
  |lst xs=>
   obtain⟨a,vs,e3,q,r3⟩:=bT r';subst e3;cases e2;exact .inl ⟨vs,s'.sub.seq q,vA r3⟩
def Cz(ft fu:ah_):Ae->Option Bool:=λρ=>(hg!).bind λb=>if b then fu ρ else some false
def Mt(ft fu:ah_):Ae->Option Bool:=λρ=>(hg!).bind λb=>if b then some true else fu ρ
def Ct(ft:ah_):Ae->Option Bool:=λρ=>(hg!).map (!·)
variable{rest:List Expr}
def rQ(h:hg_):DW X own mo! ft:=wA_
def uB(h:hg_):DW X own mo_ ft:=wB_
def yR(ha:hg_)(hb:DW X own eQ! fu):DW X own eQ_ (Cz ft fu):=
 c7x wC! λZ G H Q ρ d er e k=>by
  obtain⟨x,e1,e⟩:=HJ.mp e;refine ox_;cases x with
  |true=>exact nB wC_
  |false=>cases e;exact nE (k G1 H1 s1)
def a1q(ha:hg_)(hb:DW X own eR! fu):DW X own eR_ (Mt ft fu):=
 c7x wD_ λZ G H Q ρ d er e k=>by
  obtain⟨x,e1,e⟩:=HJ.mp e;refine ox_;cases x with
  |false=>exact nE wC_
  |true=>cases e;exact nB (k G1 H1 s1)
def yS(h:DW X own e ft):DT X own e ft:=⟨h.ok.pt⟩
def gK(h:hg_):DT X own eS! (Ct ft):=
 yT (b9g h.ok) λZ G H Q ρ d er e k=>by
  obtain⟨x,e1,rfl⟩:=HU.mp e;exact⟨G,ρ,x,er,e1,λG1 H1 s1=>k G1 H1 s1⟩
def Cu(fa fb:e!):Ae->Option D:=λρ=>(oy!).bind λb=>if b then fb ρ else some Q!
def Ev(fa fb:e!):Ae->Option D:=λρ=>(oy!).bind λb=>if b then some z_ else fb ρ
def Dv(fa:e!):Ae->Option D:=λρ=>(oy!).map λb=>.bl (!b)
def iG{op:BoolOp}(h:aa!):DE X own mp_ fa:=wE_
def lK(ha:aa!)(hb:DE X own eQ! fb):DE X own eQ_ (Cu fa fb):=
 eX wF! λZ G H Q ρ d er e k=>by
  obtain⟨x,e1,e⟩:=HJ.mp e;refine oy_;cases dA r1;refine jZ_;cases x with
  |true=>exact nB j0!
  |false=>cases e;exact nE wH!
def a1r(ha:aa!)(hb:DE X own eR! fb):DE X own eR_ (Ev fa fb):=
 eX wH_ λZ G H Q ρ d er e k=>by
  obtain⟨x,e1,e⟩:=HJ.mp e;refine oy_;cases dA r1;refine jZ_;cases x with
  |false=>exact nE j0!
  |true=>cases e;exact nB wH!
def d0s(ha:aa!):DE X own eS! (Dv fa):=
 eX (b9y ha.ok) λZ G H Q ρ d er e k=>by
  obtain⟨x,e1,rfl⟩:=HU.mp e;refine oy_;cases dA r1;exact⟨x,rfl,wI!⟩
def Lb(ft:ah_)(fa fb:e!):Ae->Option D:=λρ=>(hg!).bind λb=>if b then fa ρ else fb ρ
def c7z(hc:DT X own c ft)(ha:aa!)(hb:cG_):DE X own ms! (Lb ft fa fb):=
 eX wJ! λZ G H Q ρ d er e k=>by
  obtain⟨x,e1,e⟩:=HJ.mp e;refine ox_;cases x with
  |true=>exact nB j0!
  |false=>exact nE j0!
nonrec def f3(g h:bd!)(fa fb fc:e!):Ae->Option D:=λρ=>(fp_).bind λx=>(jW_).bind λy=>(g x y).bind λz=>match z with
 |.bl true=>(fc ρ).bind λw=>h y w
 |.bl false=>some Q!
 |_=>none
def Ag:Ae->Option aR_:=λ_=>some []
def Ac(f:e!)(fs:as_):Ae->Option aR_:=λρ=>(an_).bind λd=>(fr!).bind λds=>some ee_
def aJ:DA X own [] Ag:=c2y gQ λZ G H Q ρ d er e k=>by
 cases e;exact k [] G H hc_ An.nil
def aE(h:do_)(hs:j0_)(b9:az!:=by rfl):DA X own aO! (Ac f fs):=
 c2y wK! λZ G H Q ρ d er e' k=>by
  obtain⟨x,e1,e'⟩:=HJ.mp e';obtain⟨xs,e2,e'⟩:=HJ.mp e';cases e';exact⟨G,ρ,x,er,e1,λv G1 H1 s1 r1=>⟨G1,ρ,xs,dn_,e2,λvs G2 H2 s2 r2=>k _ G2 H2 dp! (An.cons he! r2)⟩⟩
def Aw(fs:as_):Ae->Option D:=λρ=>(fr!).bind λds=>if h!<=1000 then some dm! else none
def Dj(fs:as_):Ae->Option D:=λρ=>(fr!).bind λds=>if h!<=1000 then some cd! else none
def gJ{n:Nat}(h:n<=1000):n<=sizeLine:=MX (b5t h)
def cO{x1:Nat}(h:j0_):DE X own tE_ (Aw fs):=
 eX (b9t h.ok) λZ G H Q ρ d er e k=>by
  show"!G"
  .show"!F";refine⟨G,ρ,ds,er,e1,λvs G1 H1 s1 r1=>⟨wK_,λp hp=>k _ _ _ wL! (fZ wL_ r1)⟩⟩
  .cases e
def lI(h:j0_):DE X own i5! (Dj fs):=
 eX j1_ λZ G H Q ρ d er e k=>by
  show"!G"
  .show"!F";refine⟨G,ρ,ds,er,e1,λvs G1 H1 s1 r1=>⟨wK_,λp hp=>k _ _ _ wL! (dR wL_ r1)⟩⟩
  .cases e
def Uv(K:yS!)(r:dU!)(g:ai!):Prop:=∀{vs:n_} {ds:c!} {d:D} {G H:Hp} {Q:VK},Bk G H->An K G ds vs->g ds=some d->jX!->r vs H Q
nonrec def f1(g:ai!)(fs:as_):Ae->Option D:=λρ=>(fr!).bind g
def cH{id:String}{x:Str}{r:dU!}{g:ai!}(hc:nq!)(hd:Uv X.K r g)(hg:Y_)(hm:c3_)(hv:np_)(ha:j2!)(hn:c4!:=by decide)
  (bg:F_:=by decide)(he:az!:=by rfl)(a7:a6_:=by rfl):DE X own bB_ oB!:=
 eX wN! λZ G H Q ρ d er e' k=>by
  obtain⟨ds,e1,e'⟩:=HJ.mp e';exact⟨G,ρ,ds,er,e1,λvs G1 H1 s1 r1=>hd s1.sub r1 e' λv G2 H2 s2 r2=>k v G2 H2 dp! r2⟩
def Yk(K:yS!)(n:Nat)(g:ai!):Sp:=λvs H Q _=>bB!=n/\∃G ds d,Bk G H/\An K G ds vs/\g ds=some d/\∀v G' H',Co G H G' H'->Ax K G' d v->Q v H'
def c6q{k:Nat}{ps:q!}{g:ai!}{x:Str}(F:Fq X.prog X.w X.K X.mg X.base Qf k ae fd ps wN_)(hr:b6!)(hg:Y_)(hm:X.mg x=some bT_)(hk:W.keepIn X.K bT_=true)
  (hb:j3!)(ha:j2!)(hn:wO!:=by rfl)(ap:wO_)
  (bg:F_:=by decide)(he:az!:=by rfl)(a7:a6_:=by rfl):
  DE X own bB_ oB!:=
 eX (b3y F hr hg hm hk hb .nil xE ha.ok bg he a7) λZ G H Q ρ d er e' k=>by
  obtain⟨ds,e1,e'⟩:=HJ.mp e';refine⟨G,ρ,ds,er,e1,λvs G1 H1 s1 r1=>?_⟩;show Yk X.K ps.length g (vs++[]) H1 Q E0;rw[IR];exact⟨by rw[<-aL r1];exact ap ρ ds e1,G1,ds,d,s1.sub,r1,e',wG!⟩
end
def aW{ρ:Ae}{ds:c!}(h:Ag ρ=some ds):h!=0:=by cases h;rfl
def aK{f:e!}{fs:as_}{n:Nat}(hf:wP!):∀(ρ:Ae) (ds:c!),Ac f fs ρ=some ds->h!=n+1:=λρ ds e=>by
 show"!<";obtain⟨xs,e2,e⟩:=HJ.mp e;cases e;rw[IE,hf ρ xs e2]
def pC{h:Heap}{its:af!}(p:PlainL h a its):∃n sl,h.get? a=some {cls:=.type "list",dict:=none,data:=.seq its n,slots:=sl}:=by obtain⟨⟨cls,dd,data,sl⟩,n,e,Y,L,h3⟩:=p;simp only at Y L h3;subst Y L h3;exact⟨n,sl,e⟩
section
variable{X:Cx}
def Zq(K:yS!):R2:=λx y H Q=>∃l b xs zs,x=.ref l/\y=.ref b/\Fz K H l xs/\Fz K H b zs/\m_+zs.length<=sizeLine/\∀p,H p=none->Q da! (upd H p vk!)
def c5d:Gx X e0_ (Zq X.K):=by
 intro h1 s Z H x y v u Q I rx ry h;obtain⟨l,b,xs,zs,rfl,rfl,hH,hB,hz,q⟩:=h;cases rx;cases ry;obtain⟨its,r,pl,z⟩:=I.list hH;obtain⟨gu,r2,ZB,z2⟩:=I.list hB;obtain⟨n,sl,e⟩:=pC pl;obtain⟨n2,ji,e2⟩:=pC ZB;have Y:=aX_;have L:=r2.length;refine concat_meets d8! ⟨_,e2,rfl⟩ PySem.noFill_list_add PySem.seq_list_add PySem.F.slot_list_add PySem.F.entry_list_add (PySem.F.args_list_add_2 _ _)
  (list_addW l b its.toArray gu.toArray n n2 none none sl ji oB_) ⟨e,e2,?_⟩
 have ea:bg_++gu.toArray=(its++gu).toArray:=by simp
 rw[ea];exact⟨.ref _,_,I.lnew (t':=s.toks) (r.append r2) wP_,rfl,q _ I.fresh⟩
def Xh(K:yS!):R2:=λx y H Q=>∃a b ys,x=.ref a/\y=.ref b/\Gf K H a []/\Gf K H b ys/\Q d4! H
def c0j:Gx X e0_ (Xh X.K):=by
 intro h1 s Z H x y v u Q I rx ry h;obtain⟨a,b,ys,rfl,rfl,ha,hb,q⟩:=h;cases rx;cases ry;obtain⟨its,r1,p1,_⟩:=I.tuple ha;obtain⟨gu,r2,p2,_⟩:=I.tuple hb;obtain⟨⟨cls,dd,data,sl⟩,ho,hc,n,hd⟩:=id p1;obtain⟨⟨UL,lj,data2,ji⟩,jj,ir,n2,jk⟩:=id p2;simp only at hc hd ir jk;subst hc hd ir jk;have e0:its=[]:=r1.nil_iff.mpr rfl;exact concat_meets jd! jd_ noFill_tuple_add seq_tuple_add QI QA (PU _ _)
  (tuple_addW0 a b its.toArray gu.toArray n n2 dd lj sl ji (by simp[e0])) ⟨ho,jj,⟨.ref b,H,I,rfl,q⟩⟩
abbrev big:Nat:=100000
def cY{n:Nat}(h:n<=big):n<=sizeLine:=JB h wQ!
def Ao:D->D->Option D
 |.int i,.int j=>some (.int (i+j))
 |.str x,.str y=>if e2_+cy!<=big then some (.str (x++y))else none
 |.tup xs,.tup ys=>if m_+ad!<=big then some (.tup eK_)else none
 |.lst xs,.lst ys=>if m_+ad!<=big then some (.lst eK_)else none
 |_,_=>none
def Sx(K:yS!):R2:=λx y H Q=>Sw (λi j=>.int (i+j)) x y H Q\/((∃i j,x=.str i/\y=.str j/\i.length+j.length<=sizeLine/\Q (.str (i++j)) H)\/(Zp K x y H Q\/(Xh K x y H Q\/Zq K x y H Q)))
def aQ:Gx X e0_ (Sx X.K):=c9f.or (b1b.or (c5c.or (c0j.or c5d)))
def bO{K:yS!}:Im K (Sx K) Ao:=by
 show"!0";unfold Ao at e;show"!6"
 .show"!^";exact .inl ⟨_,_,rfl,rfl,em_⟩
 .cases cI rx;cases cI ry;show"!6"
  .show"!F";exact .inr (.inl ⟨_,_,rfl,rfl,cY hl,wS!⟩)
  .cases e
 .show"!S";obtain⟨b,ws,rfl,qb,rb⟩:=bS ry;show"!6"
  .show"!F";have l1:=aL ra;have l2:=aL rb;by_cases hv:vs=[]
   .subst hv;refine .inr (.inr (.inr (.inl ⟨a,b,ws,rfl,rfl,j5!,oC_,k _ G H aT! ?_⟩)));have:(_:c!)=[]:=QD.mp l1;rw[this,KP];exact Ax.tup qb rb
   .refine .inr (.inr (.inl ⟨a,b,vs,ws,rfl,rfl,j5!,oC_,hv,by rw[<-l1,<-l2];exact cY hl,λhw=>?_,λhw p hp=>?_⟩))
    .subst hw;have:(_:c!)=[]:=QD.mp l2;refine k _ G H aT! ?_;rw[this,IR];exact Ax.tup qa ra
    .exact k _ _ _ j6! (fZ hk! (dG ra rb))
  .cases e
 .show"#$";obtain⟨b,ws,rfl,qb,rb⟩:=bT ry;show"!6"
  .show"!F";exact .inr (.inr (.inr (.inr ⟨a,b,vs,ws,rfl,rfl,sub.seq qa,sub.seq qb,by rw[<-aL ra,<-aL rb];exact cY hl,λp hp=>k _ _ _ j6! (dR hk! (dG ra rb))⟩)))
  .cases e
 .cases e
def Dy(c:mQ_)(g:j6_):D->D->Option D
 |.int i,.int j=>if c i j=true then some bA! else none
 |_,_=>none
def a3m{K:yS!}{C:mO!}{c:mQ_}{g:j6_}{gv:iO_}(hc:∀i j,c i j=true->C i j)(hg:wU!):Im K (rI C gv) (Dy c g):=by
 show"!0";unfold Dy at e;show"!6"
 .cases bG rx;cases bG ry;show"!6"
  .rename_i h;cases e;exact⟨_,_,rfl,rfl,hc _ _ h,wV!⟩
  .cases e
 .cases e
def Ch(g:j6_):D->D->Option D
 |.int i,.int j=>some bA!
 |_,_=>none
def vW{K:yS!}{g:j6_}{gv:iO_}(hg:wU!):Im K (Sw gv) (Ch g):=by
 show"!0";unfold Ch at e;show"!6"
 .show"!^";exact⟨_,_,rfl,rfl,wV!⟩
 .cases e
def Ds:D->D->Option D:=Ch λi j=>.int (i - j)
def tG{K:yS!}:Im K sJ! Ds:=vW λ_ _ _=>Ax.int
def Ui(i j:Int):Bool:=(decide (-iQ_<i)&&decide (i<2 ^ 64))||(decide (-iQ_<j)&&decide (j<2 ^ 64))
def c9k{K:yS!}:Im K mR! (Dy Ui λi j=>.int (i*j)):=a3m (λi j h=>by
 unfold Ui at h;simp only[Bool.or_eq_true,IZ,JA]at h;exact h) λ_ _ _=>Ax.int
def c9l{K:yS!}:Im K mS_ (Dy wW! λi j=>.int (i%j)):=a3m (λi j h=>by simpa using h) λ_ _ _=>Ax.int
def c5i{K:yS!}:Im K mS! (Dy wW_ λi j=>.int (i / j)):=a3m (λi j h=>by
 simp only[IZ,JA]at h;exact h) λ_ _ _=>Ax.int
def c9j{K:yS!}:Im K mT_ (Dy wX! λi j=>.int mU!):=a3m (λi j h=>by
 simp only[IZ,JA]at h;exact⟨h.1.1,h.1.2,h.2⟩) λ_ _ _=>Ax.int
def d2u{K:yS!}:Im K mV_ (Ch λi j=>.bl mV!):=vW λ_ _ _=>Ax.bl
def d2w{K:yS!}:Im K mY! (Ch λi j=>.bl mX_):=vW λ_ _ _=>Ax.bl
def d2x{K:yS!}:Im K mZ! (Ch λi j=>.bl mY_):=vW λ_ _ _=>Ax.bl
def Sc(x y:Str):Bool:=!decide (y.cps.toList<x.cps.toList)
def b6o:Gx X mW! (λx y H Q=>∃i j,x=.str i/\y=.str j/\Q wY! H):=by intro h1 s Z H x y v u Q I rx ry h;obtain⟨i,j,rfl,rfl,q⟩:=h;obtain⟨t,rfl⟩:=rx;obtain⟨t',rfl⟩:=ry;exact PySem.P.le_str (eU I q rfl)
def Cn:D->Bool
 |.non=>true
 |_=>false
def Ca:D->D->Option D
 |x,.non=>some (.bl (Cn x))
 |_,_=>none
def a0h{K:yS!}{H:Hp}(r:Ax K H d x):decide (x=V.non)=Cn d:=by
 cases d with
 |non=>cases eH r;rfl
 |bl b=>cases dA r;rfl
 |int b=>cases bG r;rfl
 |str b=>cases cI r;rfl
 |tup b=>obtain⟨a,vs,rfl,_⟩:=bS r;rfl
 |lst b=>obtain⟨a,vs,rfl,_⟩:=bT r;rfl
 |fn b=>cases gD r;rfl
 |dk b=>obtain⟨a,rfl,_⟩:=c8n r;rfl
def b1i{K:yS!}:Im K sS! Ca:=by
 show"!0";unfold Ca at e;show"!6"
 .show"#:"
 .cases e
def Ar:D->D->Option D
 |x,.non=>some (.bl (!Cn x))
 |_,_=>none
def nX{K:yS!}:Im K sT! Ar:=by
 show"!0";unfold Ar at e;show"!6"
 .show"#:"
 .cases e
def Ak:D->D->Option D
 |.tup xs,.int i=>Dc xs i
 |.lst xs,.int i=>Dc xs i
 |.str x,.int i=>if e2_<=big then(Dc x.cps.toList i).map λc=>.str ar! else none
 |_,_=>none
def qB{K:yS!}{H:Hp}{i:Int}(r:cD_)(h:Dc ds i=some d):∃v,Dc vs i=some v/\Ax K H d v:=by unfold Dc at h ⊢;obtain⟨j,Y,L⟩:=HJ.mp h;obtain⟨v,h3,h4⟩:=iT r L;exact⟨v,HJ.mpr ⟨j,by rw[<-aL r];exact Y,h3⟩,h4⟩
def aM{K:yS!}:Im K (EV K) Ak:=by
 show"!0";unfold Ak at e;show"!6"
 .show"!S";cases bG ry;obtain⟨v,Y,L⟩:=qB ra e;exact .inr (.inl ⟨a,vs,_,v,rfl,rfl,j5!,Y,k v G H aT! L⟩)
 .show"#$";cases bG ry;obtain⟨v,Y,L⟩:=qB ra e;exact .inl ⟨a,vs,_,v,rfl,rfl,sub.seq qa,Y,k v G H aT! L⟩
 .cases cI rx;cases bG ry;show"!6"
  .rename_i hl;obtain⟨c,Y,rfl⟩:=HU.mp e;exact .inr (.inr ⟨_,_,c,rfl,rfl,cY hl,Y,wS!⟩)
  .cases e
 .cases e
def Dk{α:Type}(xs:P_)(lo hi:a8_):List α:=(xs.drop nB_).take nC!
def a6u{K:yS!}{H:Hp}(r:cD_)(lo hi:a8_):An K H (Dk ds lo hi) (Um vs lo hi):=by unfold Dk Um;rw[aL r];exact sO _ (sP _ r)
end
section
variable{X:Cx}{own:List Nat}{e a b c:Expr}{es:List Expr}{pos p2:Pos}{f fa fb fc:Ae->Option D}{fs:Ae->Option (List D)}{ft fu:Ae->Option Bool}{ol oh:Ae->Option (Option Int)}
inductive BF(K:yS!)(own:l!)(o:wY_)(Z:St)(H:Hp)(Q:uy!):Prop
 |mk (G:Hp) (ρ:Ae) (i:a8_) (r:ce_) (e:o ρ=some i) (k:∀G' H',Co G H G' H'->Q i H'):BF K own o Z H Q
def Aq:Ae->Option oG_:=λ_=>some none
def Ap(f:e!):Ae->Option oG_:=λρ=>(an_).bind λd=>match d with|.int i=>some (some i)|_=>none
def dQ:PO X none (BF X.K own Aq):=λh1 s Z H Q I ⟨G,ρ,i,er,e,k⟩=>by
 cases e;exact c4s h1 s Z H Q I (k G H hc_)
def dP(h:do_):PO X iC! (BF X.K own (Ap f)):=λh1 s Z H Q I ⟨G,ρ,i,er,e',k⟩=>by
 obtain⟨d,e1,e2⟩:=HJ.mp e';refine c4r h.ok h1 s Z H Q I ⟨G,ρ,d,er,e1,λv G' H' s' r'=>?_⟩;cases d<;>first
  |cases e2
  |skip
 cases bG r';exact⟨_,rfl,ow_⟩
def Bj:D->Option Int->Option Int->Option D
 |.tup xs,lo,hi=>if HT.sIx xs.length 0 lo=0/\HT.sIx xs.length xs.length hi=m_ then none else some (.tup (Dk xs lo hi))
 |.lst xs,lo,hi=>some (.lst (Dk xs lo hi))
 |_,_,_=>none
def Dp(f:e!)(ol oh:wY_):Ae->Option D:=λρ=>(an_).bind λd=>(ol ρ).bind λl=>(oh ρ).bind λh=>Bj d l h
def cX{lo hi:Option Expr}(ha:aa!)(hl:PO X lo (BF X.K own ol))(hh:PO X hi (BF X.K own oh)):DE X own (.Subscript a nz_ pos) (Dp fa ol oh):=
 eX (b9v (Zu.or c8j c3x) ha.ok hl hh) λZ G H Q ρ d er e k=>by
  show"!<";obtain⟨l,e2,e⟩:=HJ.mp e;obtain⟨h,e3,e⟩:=HJ.mp e;refine⟨G,ρ,x,er,e1,λv G1 H1 s1 r1=>⟨G1,ρ,l,dn_,e2,λG2 H2 s2=>⟨G2,ρ,h,er.grow dp!,e3,λG3 H3 s3=>?_⟩⟩⟩;have r3:Ax X.K G3 x v:=(he!).mono s3.g;have s4:Co G H G3 H3:=s1.trans he_;have sub:=s4.sub;unfold Bj at e;show"!6"
  .show"!6"
   .cases e
   .rename_i hw;cases e;obtain⟨p,vs,rfl,q,rr⟩:=bS r3;refine .inl ⟨p,vs,rfl,cD sub q,?_,λp hp=>k _ _ _ w0! (fZ hk! (a6u rr l h))⟩;rw[<-aL rr];exact hw
  .cases e;obtain⟨p,vs,rfl,q,rr⟩:=bT r3;exact .inr ⟨p,vs,rfl,oL!,λp hp=>k _ _ _ w0! (dR hk! (a6u rr l h))⟩
  .cases e
def FS:D->Value
 |.non=>.type "NoneType"
 |.bl _=>.type "bool"
 |.int _=>.type "int"
 |.str _=>.type "str"
 |.tup _=>.type "tuple"
 |.lst _=>.type "list"
 |.fn _=>.none
 |.dk _=>.none
def CA(K:yS!)(T:String):List V->Hp->VK->Prop:=λxs H Q=>∃x d b,xs=[x,.ty T]/\Ax K H d x/\W.kitOne K (FS d) d3_=some b/\(∀a,d≠.fn a)/\(∀a,d≠.dk a)/\Q bK_ H
def c3h{T:String}:Kj X oM! (CA X.K T):=by
 intro h1 s Z H xs us Q I r h;obtain⟨x,d,b,rfl,rx,e,hf,y9,q⟩:=h;obtain⟨u,w',rfl,r1,r2⟩:=b2r r;cases r2;have fin:∀tk,EP X h1 Z Q mk! {s with toks:=tk}:=λtk=>⟨.bl b,H,I.tok tk,rfl,q⟩;cases d with
 |non=>cases eH rx;cases r1;exact RS W.kitx_none I.kIn True.intro e fs! fin
 |bl y=>cases dA rx;cases r1;exact RS W.kitx_bool I.kIn True.intro e fs! fin
 |int y=>cases bG rx;obtain⟨t,rfl⟩:=r1;exact RS W.kitx_int I.kIn True.intro e fs! fin
 |str y=>cases cI rx;obtain⟨t,rfl⟩:=r1;exact RS W.kitx_str I.kIn True.intro e fs! fin
 |tup ys=>
  show"!S";cases r1;obtain⟨its,_,⟨o,Y,L,_⟩,_⟩:=I.tuple qa;exact RS W.kitx_tuple I.kIn oN! e fs! fin
 |lst ys=>
  show"#$";cases r1;obtain⟨its,_,pl,_⟩:=I.list qa;obtain⟨o,n,Y,L,_⟩:=pl;exact RS W.kitx_list I.kIn oN! e fs! fin
 |fn a=>exact absurd rfl (hf a)
 |dk a=>exact absurd rfl (y9 a)
def Fv(T:String):D->Option Bool
 |.non=>some (T=="NoneType")
 |.bl _=>some (T=="bool"||T=="int")
 |.int _=>some (T=="int")
 |.str _=>some (T=="str")
 |.tup _=>some (T=="tuple")
 |.lst _=>some (T=="list")
 |.fn _=>none
 |.dk _=>none
structure Xy(K:yS!)(T:String):Prop where
 ok:∀d b,Fv T d=some b->W.kitOne K (FS d) d3_=some b
def a4g:W.kitOne [] j9! bU!=some ("int"=="NoneType"):=by decide+kernel
def a7x:W.kitOne [] bU_ bU!=some ("int"=="bool"||"int"=="int"):=by decide+kernel
def a4k:W.kitOne [] bU! bU!=some ("int"=="int"):=by decide+kernel
def a4e:W.kitOne [] bV! bU!=some ("int"=="str"):=by decide+kernel
def a4c:W.kitOne [] bV_ bU!=some ("int"=="tuple"):=by decide+kernel
def a4i:W.kitOne [] d6_ bU!=some ("int"=="list"):=by decide+kernel
def c5v{K:yS!}:Xy K "int":=⟨λd b h=>match d,b,h with
 |.non,b,h=>by cases h;exact a4g
 |.bl _,b,h=>by cases h;exact a7x
 |.int _,b,h=>by cases h;exact a4k
 |.str _,b,h=>by cases h;exact a4e
 |.tup _,b,h=>by cases h;exact a4c
 |.lst _,b,h=>by cases h;exact a4i
 |.fn _,b,h=>by cases h
 |.dk _,b,h=>by cases h⟩
def zQ:W.kitOne [] j9! bU_=some ("bool"=="NoneType"):=by decide+kernel
def a4l:W.kitOne [] bU_ bU_=some ("bool"=="bool"||"bool"=="int"):=by decide+kernel
def zS:W.kitOne [] bU! bU_=some ("bool"=="int"):=by decide+kernel
def zP:W.kitOne [] bV! bU_=some ("bool"=="str"):=by decide+kernel
def zO:W.kitOne [] bV_ bU_=some ("bool"=="tuple"):=by decide+kernel
def zR:W.kitOne [] d6_ bU_=some ("bool"=="list"):=by decide+kernel
def c1w{K:yS!}:Xy K "bool":=⟨λd b h=>match d,b,h with
 |.non,b,h=>by cases h;exact zQ
 |.bl _,b,h=>by cases h;exact a4l
 |.int _,b,h=>by cases h;exact zS
 |.str _,b,h=>by cases h;exact zP
 |.tup _,b,h=>by cases h;exact zO
 |.lst _,b,h=>by cases h;exact zR
 |.fn _,b,h=>by cases h
 |.dk _,b,h=>by cases h⟩
def a4f:W.kitOne [] j9! bV!=some ("str"=="NoneType"):=by decide+kernel
def a7w:W.kitOne [] bU_ bV!=some ("str"=="bool"||"str"=="int"):=by decide+kernel
def a4j:W.kitOne [] bU! bV!=some ("str"=="int"):=by decide+kernel
def a4d:W.kitOne [] bV! bV!=some ("str"=="str"):=by decide+kernel
def a4b:W.kitOne [] bV_ bV!=some ("str"=="tuple"):=by decide+kernel
def a4h:W.kitOne [] d6_ bV!=some ("str"=="list"):=by decide+kernel
def a4x{K:yS!}:Xy K "str":=⟨λd b h=>match d,b,h with
 |.non,b,h=>by cases h;exact a4f
 |.bl _,b,h=>by cases h;exact a7w
 |.int _,b,h=>by cases h;exact a4j
 |.str _,b,h=>by cases h;exact a4d
 |.tup _,b,h=>by cases h;exact a4b
 |.lst _,b,h=>by cases h;exact a4h
 |.fn _,b,h=>by cases h
 |.dk _,b,h=>by cases h⟩
def yB:W.kitOne [] j9! bV_=some ("tuple"=="NoneType"):=by decide+kernel
def zT:W.kitOne [] bU_ bV_=some ("tuple"=="bool"||"tuple"=="int"):=by decide+kernel
def yD:W.kitOne [] bU! bV_=some ("tuple"=="int"):=by decide+kernel
def yA:W.kitOne [] bV! bV_=some ("tuple"=="str"):=by decide+kernel
def xZ:W.kitOne [] bV_ bV_=some ("tuple"=="tuple"):=by decide+kernel
def yC:W.kitOne [] d6_ bV_=some ("tuple"=="list"):=by decide+kernel
def oA{K:yS!}:Xy K "tuple":=⟨λd b h=>match d,b,h with
 |.non,b,h=>by cases h;exact yB
 |.bl _,b,h=>by cases h;exact zT
 |.int _,b,h=>by cases h;exact yD
 |.str _,b,h=>by cases h;exact yA
 |.tup _,b,h=>by cases h;exact xZ
 |.lst _,b,h=>by cases h;exact yC
 |.fn _,b,h=>by cases h
 |.dk _,b,h=>by cases h⟩
def Em(T:String)(f:e!):Ae->Option D:=λρ=>(an_).bind λd=>(Fv T d).map D.bl
def lJ{T:String}{x:Str}(ht:Xy X.K T)(hg:Gl X "isinstance")(hm:X.mg "isinstance"=none)(ZC:Y_)(zc:c3_)(hv:bootBuiltins "isinstance"=some oM!)(ZD:nq_)(ha:aa!)
  (iq:c4!:=by decide)(jk:F_:=by decide)
  (he:starEach [a,cI!] X.env=dT!::starEach [cI!] X.env:=by rfl)(wv:starEach [cI!] X.env=(false,eval dq! X.env)::starEach [] X.env:=by rfl)
  (a7:(backTo pos (starEach [cI!] X.env)).any c_=false:=by rfl):DE X own (.Call (.Name "isinstance" p) [a,cI!] [] pos) (Em T fa):=
 eX (xD (r:=CA X.K T) c3h hg hm hv (dZ ha.ok (dZ (c4z (v:=V.ty T) ZC zc ZD rfl iq jk) gQ wv) he) b_ b_ he a7) λZ G H Q ρ d er e k=>by
  show"!<";obtain⟨b,e2,rfl⟩:=HU.mp e;exact⟨G,ρ,x,er,e1,λv G1 H1 s1 r1=>⟨v,x,b,rfl,r1.mono s1.sub,ht.ok x b e2,w5_,w5_,wI!⟩⟩
def fL{K:yS!}{H:Hp}(h:An K H [d] vs):∃v,vs=[v]/\Ax K H d v:=by obtain⟨v,r,rfl,Y,L⟩:=bR h;cases cS L;exact⟨v,rfl,Y⟩
def Bp:List D->Option D
 |[.tup xs]=>some (.int m_)
 |[.lst xs]=>some (.int m_)
 |[.str x]=>if e2_<=big then some (.int e2_)else none
 |_=>none
def eJ{K:yS!}:Uv K w6_ Bp:=by
 show"!g";unfold Bp at e;show"!6"
 .show"!D";obtain⟨a,ws,rfl,q,rr⟩:=bS rv;cases e;exact⟨_,_,rfl,.inr ⟨ws,cD sub q,aL rr⟩,em_⟩
 .show"!D";obtain⟨a,ws,rfl,q,rr⟩:=bT rv;cases e;exact⟨_,_,rfl,.inl ⟨ws,oL!,aL rr⟩,em_⟩
 .show"!D";cases cI rv;show"!6"
  .show"!F";exact⟨_,_,rfl,⟨cY hl,rfl⟩,em_⟩
  .cases e
 .cases e
def Ge:List D->Option D
 |[.int i]=>some (.int iX!)
 |_=>none
def d0z{K:yS!}:Uv K s4_ Ge:=by
 show"!g";unfold Ge at e;show"!6"
 .show"!D";cases bG rv;cases e;exact⟨_,rfl,em_⟩
 .cases e
def Yv:List D->Option D
 |[.str x]=>if e2_=1 then some s8! else none
 |_=>none
def d0y{K:yS!}:Uv K s7! Yv:=by
 show"!g";unfold Yv at e;show"!6"
 .show"!D";cases cI rv;show"!6"
  .show"!F";exact⟨_,rfl,hl,em_⟩
  .cases e
 .cases e
def wK:∀{bs:j9_} {us:i_},Bc (bs.map V.bl) us->us=bs.map Value.bool
 |[],_,.nil=>rfl
 |b::bs,_,.cons r t=>by cases r;rw[wK t];rfl
def CD(K:yS!):List V->Hp->VK->Prop:=λxs H Q=>∃(p:x7!) (bs:j9_),xs=gS_/\Fz K H p (bs.map V.bl)/\Q (.bl oR_) H
def b7r:∀(bs:j9_),((List.range bs.length).all λi=>(bs[i]?).getD true)=bs.all id:=λbs=>by
 rw[LS,LG,LG];show"!L"
 .intro h x J;obtain⟨i,hi,rfl⟩:=OO.mp J;have:=h i (NT.mpr hi);simpa[hi]using this
 .intro h i hi;have df:=NT.mp hi;simpa[df]using h bs[i] (KS df)
def yZ(hc:a4!):Kj X w8! (CD X.K):=by
 intro h1 s Z H xs us Q I r h;obtain⟨p,bs,rfl,hq,q⟩:=h;obtain⟨u,rfl,r1⟩:=uI r;cases r1;obtain⟨its,rv,pl,hz⟩:=I.list hq;have e:=wK rv;subst e;have hl:=pl.isList;have am:p<o_:=by obtain⟨_,e,_⟩:=hl;exact IQ e
 refine call_all_walk (wpAny_pyIter_list hl ?_);refine⟨o_,[o_,p],[o_],(ka!).toArray.size,_,_,λi=>(bs[i]?).getD true,rfl,Walks.list (A:=X.A.in1) bL! _ p (JG am) (ka!).toArray,
  ⟨eW_,hl.push _⟩,λi v s' Q' E' hP hQ=>?_,λh' tk hk=>?_⟩
 .have VD:ka![i]?=some v:=by simpa using hP
  rw[JC]at VD;obtain⟨b,hb,rfl⟩:=HU.mp VD;simp only[hb,Option.getD_some]at hQ;exact JN hQ
 .have e:((List.range (ka!).toArray.size).all λi=>(bs[i]?).getD true)=bs.all id:=by
   rw[HS,IK];exact b7r bs
  rw[e];exact⟨.bl _,H,I.kept (t':=tk) λb x ex=>hk b x (λhm=>by rw[HZ.mp hm]at ex;exact NG _ (IQ ex)) (HM _ ex),rfl,q⟩
def Nn:List D->Option (List Bool)
 |[]=>some []
 |.bl b::r=>(Nn r).map (b::·)
 |_=>none
def Rr:List D->Option D
 |[.lst xs]=>(Nn xs).map λbs=>.bl oR_
 |_=>none
def a0i{K:yS!}{H:Hp}:∀{ds:c!} {vs:n_} {bs:j9_},An K H ds vs->Nn ds=some bs->vs=bs.map V.bl
 |[],vs,bs,r,e=>by cases cS r;cases e;rfl
 |d::ds,vs,bs,r,e=>by
  obtain⟨v,t,rfl,r1,r2⟩:=bR r;cases d<;>first|cases e|skip
  obtain⟨bs',e1,rfl⟩:=HU.mp e;cases dA r1;rw[a0i r2 e1];rfl
def b2h{K:yS!}:Uv K (CD K) Rr:=by
 show"!g";unfold Rr at e;show"!6"
 .show"!D";obtain⟨a,ws,rfl,q,rr⟩:=bT rv;obtain⟨bs,e1,rfl⟩:=HU.mp e;have:=a0i rr e1;subst this;exact⟨a,bs,rfl,oL!,ep_⟩
 .cases e
end
def Zf(K:yS!)(af:It)(ds:c!)(G1:Hp):Prop:=∀(i:Nat) (G' H':Hp),Bk G1 G'->Bk G' H'->
 w8_/\w9!
inductive FV(K:yS!)(own:l!)(fi:as_)(Z:St)(H:Hp)(R:go_):Prop
 |mk (G:Hp) (ρ:Ae) (ds:c!) (o:ce_) (e:fi ρ=some ds) (k:∀af G1 H1,Co G H G1 H1->Zf K af ds G1->R af H1):FV K own fi Z H R
structure DI(X:Cx)(own:l!)(tg iter:Expr)(fi:as_):Prop where
 ok:PI X tg iter (FV X.K own fi)
section
variable{X:Cx}{own:List Nat}{e a b c tg:Expr}{es:List Expr}{pos p2:Pos}{f fa fb fc:Ae->Option D}{fs fi:Ae->Option (List D)}{ft fu:Ae->Option Bool}
def a9a{wi:TI}(h:PI X tg e wi)(hw:∀Z G H R ρ ds,OR X.K own G H Z ρ->fi ρ=some ds->(∀af G1 H1,Co G H G1 H1->Zf X.K af ds G1->R af H1)->wi Z H R):DI X own tg e fi:=⟨λh1 s Z H R I ⟨G,ρ,ds,er,e,k⟩=>h h1 s Z H R I (hw Z G H R ρ ds er e k)⟩
def Ep(f:e!):Ae->Option aR_:=λρ=>(an_).bind λd=>match d with|.lst xs=>some xs|_=>none
def EZ(f:e!):Ae->Option aR_:=λρ=>(an_).bind λd=>match d with|.tup xs=>some xs|_=>none
def a8j{K:yS!}{G1:Hp}{ad:x7!}(q:Fz K G1 ad vs)(r:An K G1 ds vs):Zf K (FL K ad) ds G1:=by intro i G' H' s1 s2;have q':Fz K H' ad vs:=s2.seq (s1.seq q);refine⟨eq!,λhi=>⟨vs,q',by rw[<-aL r,hi];exact IM _⟩⟩;obtain⟨v,Y,L⟩:=iT r hd;refine⟨⟨vs,v,q',Y⟩,hn_⟩;obtain⟨e1,e2⟩:=hy;subst e1;have:=e2 vs q';rw[Y]at this;cases this;exact⟨G',ka_,L.mono s1⟩
def fR(h:aa!):DI X own tg a (Ep fa):=a9a (b3u h.ok) λZ G H R ρ ds er e k=>by
 obtain⟨d,e1,e2⟩:=HJ.mp e;cases d<;>first|cases e2|skip
 refine fs_;obtain⟨p,vs,rfl,q,rr⟩:=bT r1;exact⟨p,rfl,⟨vs,s1.sub.seq q⟩,k _ G1 H1 s1 (a8j q rr)⟩
def Dl(n:Nat):List D:=(oT_).map λi=>.int (i:Nat)
def Eu(f:e!):Ae->Option aR_:=λρ=>(an_).bind λd=>match d with|.int j=>if -1000<=j/\j<=100000 then some (Dl j.toNat)else none|_=>none
def b7d{K:yS!}{G1:Hp}{n:Nat}:Zf K (CV 0 n) (Dl n) G1:=by intro i G' H' s1 s2;unfold Dl;refine w9_;rw[JC]at hd;obtain⟨j,hj,rfl⟩:=HU.mp hd;obtain⟨hl,he⟩:=IL.mp hj;rw[PH]at he;subst he;rw[MF]at hl;refine⟨hl,hn_⟩;obtain⟨e1,e2⟩:=hy;subst e1 e2;refine⟨G',ka_,?_⟩;rw[Int.zero_add];exact Ax.int
def fM{pos:Pos}(hg:iL_)(hm:iL!)(h:aa!)(hs:su_:=by rfl)(hs1:kb!:=by rfl):
  DI X own tg sv_ (Eu fa):=a9a (b6k hg hm (dZ h.ok gQ hs1) hs) λZ G H R ρ ds er e k=>by
 obtain⟨d,e1,e2⟩:=HJ.mp e;cases d<;>first|cases e2|skip
 rename_i j;have e3:(if -1000<=j/\j<=100000 then some (Dl j.toNat)else none)=some ds:=e2;split at e3
 .rename_i hj;cases e3;refine fs_;cases bG r1;exact⟨j,rfl,v!,v!,k _ G1 H1 s1 b7d⟩
 .cases e3
def Fp(bnd:ai_)(ft:ah_)(fe:e!)(ρ:Ae):List D->Option aR_
 |[]=>some []
 |d::ds=>(kc!).bind λai=>(ft ai).bind λb=>if b then(fe ai).bind λy=>(Fp bnd ft fe ρ ds).map (y::·)else Fp bnd ft fe ρ ds
def GD(K:yS!)(g:TG)(bnd:ai_):Prop:=∀{x:V} {d:D} {Z:St} {G H:Hp} {ρ ai:Ae} {Q:iC_},OR K [] G H Z ρ->Ax K G d x->bnd d ρ=some ai->(∀dw,OR K [] G H dw ai->Le ρ ai->Q dw H)->g x Z H Q
def Bd(i:Nat):D->Ae->Option Ae:=λd ρ=>match ρ[i]? with|some none=>some cf!|_=>none
def cK{K:yS!}(i:Nat):GD K eU! (Bd i):=by
 intro x d Z G H ρ ai Q er r e k;unfold Bd at e;show"!6"
 .rename_i h;cases e;exact k _ (er.set d! r) ((Le.refl ρ).set h)
 .cases e
def Rq(i j:Nat):D->Ae->Option Ae:=λd ρ=>match d with
 |.tup [x,y]=>(Bd i x ρ).bind λai=>Bd j y ai
 |_=>none
def Le.trans{ρ ai bi:Ae}(a:Le ρ ai)(b:Le ai bi):Le ρ bi:=⟨a.1.trans b.1,λi d h=>b.2 i d (a.2 i d h)⟩
def c6c{K:yS!}(i j:Nat):GD K xb_ (Rq i j):=by
 intro x d Z G H ρ ai Q er r e k;unfold Rq at e;show"!6"
 .obtain⟨bi,e1,e2⟩:=HJ.mp e;show"!X";show"!4";refine⟨p,[v1,v2],rfl,cD er.sub q,rfl,v1,[v2],rfl,?_⟩;refine cK i er r1 e1 λdw ng l1=>⟨v2,[],rfl,?_⟩;exact cK j ng r2 e2 λdb cj l2=>⟨rfl,k db cj (l1.trans l2)⟩
 .cases e
def Hx(nl:Nat)(ix:l!)(fi:as_)(bnd:ai_)(ft:ah_)(fe:e!):Ae->Option D:=λρ=>(fi ρ).bind λds=>if h!<=big then(Fp bnd ft fe hc! ds).map D.lst else none
def d0x{K:yS!}{af:It}{ds:c!}{G1 H1:Hp}{g:TG}{bnd:ai_}{ft:ah_}{fe:e!}{j8:Ae}{tj:St}{Fin:c0_}
  (hb:h!<=big)(f7:Zf K af ds G1)(hg:GD K g bnd)(er:OR K [] G1 H1 tj j8)(e:Fp bnd ft fe j8 ds=some jm)(k:∀ys G' H',Co G1 H1 G' H'->An K G' jm ys->Fin ys H'):
  Wg af g (Zy K [] ft) (tD K [] fe) Fin tj H1:=by
 refine⟨λi m ys σ H'=>i<=h!/\m=h! - i/\∃G' ws r,Co G1 H1 G' H'/\OR K [] G' H' σ j8/\An K G' ws ys/\nr_<=i/\Fp bnd ft fe j8 (ds.drop i)=some r/\ws++r=jm,
  ⟨h!,JS _,rfl,G1,[],jm,Co.refl er.sub,er,An.nil,JS _,e,rfl⟩,?_⟩
 rintro i m ys σ H' ⟨hi,rfl,G',ws,r,x,cn,ak,hw,cj,et⟩;refine xc_;obtain⟨nh,nj⟩:=f7 i G' H' x.g cn.sub;by_cases am:i<h!
 .right;have hd:ds[i]?=some ds[i]:=by simp[am]
  have zd:ds.drop i=ds[i]::ds.drop a5!:=MD am;rw[zd]at cj;unfold Fp at cj;obtain⟨ai,e1,cj⟩:=HJ.mp cj;obtain⟨b,e2,cj⟩:=HJ.mp cj;obtain⟨go,yl⟩:=nh _ hd;refine⟨go,kc_⟩;obtain⟨G2,x2,r2⟩:=yl v H2 hy;refine hg (cn.grow x2) r2 e1 λdw ng tz=>⟨G2,ai,b,ng,e2,λG3 H3 x3=>?_⟩;have j9:=ng.grow x3;have ll:Co G1 H1 G3 H3:=x.trans (x2.trans x3);cases b with
  |true=>
   obtain⟨y,e3,cj⟩:=HJ.mp cj;obtain⟨zs,e4,rfl⟩:=HU.mp cj;refine nB ⟨G3,ai,y,j9,e3,λu G4 H4 x4 r4=>⟨_,?_,am,rfl,G4,ws++[y],zs,ll.trans x4,(j9.grow x4).le tz,?_,?_,e4,?_⟩⟩
   .omega
   .exact dG xd! (An.cons r4 An.nil)
   .rw[IG,LA];omega
   .rw[KB];exact et
  |false=>
   refine nE ⟨_,?_,am,rfl,G3,ws,r,ll,j9.le tz,(oV_).mono x3.g,v!,cj,et⟩;omega
 .left;have iz:i=h!:=by omega
  refine⟨nj iz,k ys G' H' x ?_⟩;rw[iz,QH]at cj;cases cj;rw[IR]at et;subst et;exact ak
def oE{scope:Scope}{NL:q!}{ix:l!}{g:TG}{bnd:ai_}{fe:e!}
  (cm:di_)(cg:dj!)(j7:∀y∈ca!,y.2=.local->scope.names.lookup y.1=some .local)
  (io:g5_)(cap:di!)(nv:jT!)(calm:a4!)(be:DI X own tg iter fi)
  (hg:g6!)(ny:oW!)(hi:∀cl C ao bc fp,Qd cb! de xd_)(he:∀cl C ao bc fp,DE cb! [] ez fe)
  (hs:c7!:=by intro _;rfl):
  DE X own g4_ (Hx NL.length ix fi bnd ft fe):=
 eX xe_ λZ G H Q ρ d er e k=>by
  show"!G"
  .rename_i hb;obtain⟨jm,e2,rfl⟩:=HU.mp e;refine⟨G,ρ,ds,er,e1,xf!⟩;refine d0x hb f7 ny ((er.grow x1).cap NL.length ix nv) e2 λys G' H' x r p hp=>?_;exact k _ _ _ (x1.trans (x.trans hp!)) (dR oW_ r)
  .cases e
def a7c:Qd X [] (Zy X.K [] λ_=>some true):=λh1 s Z H Q I ⟨G,ρ,b,er,e,k⟩=>by
 cases e;exact a7b h1 s Z H Q I (k G H hc_)
def d2l(h:DT X [] c ft):Qd X [c] xd_:=a7a h.ok
end
inductive Fl where
 |nx (ρ:Ae)|rt (d:D)
structure SR(K:yS!)(own:l!)(G0 F0 G H:Hp)(Z:St)(ρ:Ae):Prop where
 or:OR K own G H Z ρ
 ext:Co G0 F0 G H
 fr:∀i∈own,∀p,Z[i]?=some ce!->F0 p=none
inductive DF(K:yS!)(G0 F0:Hp)(own hx:l!)(f:aU!)(E:Vo)(Z:St)(H:Hp):Prop
 |mk (G:Hp) (ρ:Ae) (r:Fl) (o:ft_) (e:f ρ=some r) (k:match(generalizing:=false) r with
  |.nx ρ'=>∀G' σ H',SR K hx G0 F0 G' H' σ ρ'->E.nx σ H'
  |.rt d=>∀v G' H',Co G0 F0 G' H'->Ax K G' d v->E.rt v H'):DF K G0 F0 own hx f E Z H
structure DS(X:Cx)(own hx:l!)(st:Stmt)(f:aU!):Prop where
 ok:∀G0 F0,PS X st xf_
structure Ya(X:Cx)(own hx:l!)(st:b1_)(f:aU!):Prop where
 ok:∀G0 F0,Uq X st xf_
section
variable{X:Cx}{own bj jn:List Nat}{st:Stmt}{rest body:List Stmt}{e a b c tg:Expr}{es:List Expr}{pos p2:Pos}{f fa fb fc:Ae->Option D}{fs fi:Ae->Option (List D)}{ft fu:Ae->Option Bool}{q1 q2 q3:Ae->Option Fl}
def c7y{t:TS}(h:iB_)(hw:∀G0 F0 E Z G H ρ r,SR X.K own G0 F0 G H Z ρ->q1 ρ=some r->(match r with
  |.nx ρ'=>∀G' σ H',SR X.K bj G0 F0 G' H' σ ρ'->E.nx σ H'
  |.rt d=>∀v G' H',Co G0 F0 G' H'->Ax X.K G' d v->E.rt v H')->t E Z H):DS X own bj st q1:=⟨λG0 F0 h1 s Z H E I ⟨G,ρ,r,er,e,k⟩=>h h1 s Z H E I (hw G0 F0 E Z G H ρ r er e k)⟩
def SR.grow{K:yS!}{G0 F0 G H G' H':Hp}{Z:St}{ρ:Ae}(s:ft_)(x:jS!):SR K own G0 F0 G' H' Z ρ:=⟨s.or.grow x,s.ext.trans x,s.fr⟩
def SR.set{K:yS!}{G0 F0 G H:Hp}{Z:St}{ρ:Ae}{i:Nat}(s:ft_)(hi:bp!)(r:cF_):SR K own G0 F0 G H eN! cf!:=
 ⟨s.or.set hi r,s.ext,λj hj p e=>by
  have ne:i≠j:=λz=>hi (z▸hj);rw[JE ne]at e;exact s.fr j hj p e⟩
def Cs:Ae->Option Fl:=λρ=>some aK_
nonrec def sSeq(q1 q2:aU!):Ae->Option Fl:=λρ=>(q1 ρ).bind λr=>match r with|.nx ρ'=>q2 ρ'|.rt d=>some a0_
def eC:Ya X own own [] Cs:=⟨λG0 F0 h1 s Z H E I ⟨G,ρ,r,er,e,k⟩=>by
 cases e;exact b3q h1 s Z H E I (k G Z H er)⟩
def bC(Y:xg_)(L:Ya X bj jn rest q2):Ya X own jn mt! (sSeq q1 q2):=⟨λG0 F0 h1 s Z H E I ⟨G,ρ,r,er,e,k⟩=>by
 refine a6z oX_ (L.ok G0 F0) h1 s Z H E I ?_;obtain⟨r1,e1,e2⟩:=HJ.mp e;refine⟨G,ρ,r1,er,e1,?_⟩;cases r1 with
 |nx ρ'=>exact λG' σ H' cn=>⟨G',ρ',r,cn,e2,k⟩
 |rt d=>
  cases e2;exact k⟩
def bE(Y:xg_):Ya X own bj [st] q1:=⟨λG0 F0=>b3p oX_⟩
def SR.free{K:yS!}{G0 F0 G H:Hp}{Z:St}{ρ:Ae}(s:ft_):SR K [] G0 F0 fo! H Z ρ:=by
 have o:=s.or.full;refine⟨o,⟨jR_,s.ext.h,o.sub,bo_⟩,as!⟩
 .have z:=s.ext.g b u e;unfold Lf;split
  .exact s.or.sub b u z
  .exact z
 .unfold Lf at h;split at h
  .rename_i hb;obtain⟨i,hi,q⟩:=nZ hb;exact .inr (s.fr i hi b q)
  .exact s.ext.new b h
def a8z(h:Ya X [] jn rest q1):Ya X own jn rest q1:=⟨λG0 F0 h1 s Z H E I ⟨G,ρ,r,er,e,k⟩=>h.ok G0 F0 h1 s Z H E I ⟨_,ρ,r,er.free,e,k⟩⟩
def Bl(f:e!):Ae->Option Fl:=λρ=>(an_).map Fl.rt
def bW(h:do_):DS X own bj mt_ (Bl f):=c7y (b9j h.ok) λG0 F0 E Z G H ρ r er e' k=>by
 obtain⟨d,e1,rfl⟩:=HU.mp e';exact⟨G,ρ,d,er.or,e1,λv G' H' x r=>k v G' H' (er.ext.trans x) r⟩
def Cp(i:Nat)(f:e!):Ae->Option Fl:=λρ=>(an_).map λd=>.nx cf!
def fW{i:Nat}(hN:bv_)(hi:ak_)(J:bw!)(h:do_)(bu:bp!:=by decide)(hs:xh_:=by rfl)
  (hf:X.fn x=true\/X.env.scope.names.lookup x=some .local:=by first|exact .inl rfl|exact .inr rfl|assumption):DS X own own xi! (Cp i f):=
 c7y xi_ λG0 F0 E Z G H ρ r er e' k=>by
  obtain⟨d,e1,rfl⟩:=HU.mp e';exact⟨G,ρ,d,er.or,e1,λv G' H' x r=>k G' _ H' ((hq_).set bu r)⟩
def Gi(ft:ah_)(q1 q2:aU!):Ae->Option Fl:=λρ=>(hg!).bind λb=>if b then q1 ρ else q2 ρ
def hX{b1 b2:b1_}(hc:DT X own c ft)(Y:Ya X own bj b1 q1)(L:Ya X own bj b2 q2):DS X own bj xj! (Gi ft q1 q2):=⟨λG0 F0 h1 s Z H E I ⟨G,ρ,r,er,e',k⟩=>by
 refine c7j hc.ok oX_ (L.ok G0 F0) h1 s Z H E I ?_;obtain⟨x,e1,e2⟩:=HJ.mp e';refine⟨G,ρ,x,er.or,e1,λG' H' x'=>?_⟩;cases x with
 |true=>exact nB xk!
 |false=>exact nE xk!⟩
def Mu(i:Nat)(fs:as_):Ae->Option Fl:=λρ=>(fr!).bind λds=>if h!<=1000 then some (.nx oY_)else none
def SR.ownNew{K:yS!}{G0 F0 G H:Hp}{Z:St}{ρ:Ae}{i:Nat}(s:ft_)(hi:bp!)(hl:i<f9!)(r:ke!)(hp:cE_):
  SR K (i::own) G0 F0 G jR! (Z.set i ce!) oY_:=by
 have ze:i<hb!:=by rw[s.or.len];exact hl
 have zf:Bk H jR!:=iS hp;show"#0";refine⟨⟨xl!,by rw[LO,LO,s.or.len],xl_,ke_,λj hj k hk b8 a b e1 e2=>?_⟩,⟨s.ext.g,s.ext.h.trans zf,xl!,s.ext.new⟩,λj hj a e=>?_⟩
 .have cv:i≠j:=λz=>n (by rw[z];exact HQ);rw[JE cv]at q ⊢;exact s.or.at_ j d q λz=>n (HL _ z)
 .obtain z|z:=HN.mp hj
  .subst z;exact⟨p,ds,vs,by rw[KC ze],by rw[KC hl],cC,s.or.sub.free hp,r⟩
  .have cv:i≠j:=λy=>hi (y▸z);obtain⟨a,qe,gf,Y,L,h3,h4,h5⟩:=s.or.own_ j z;exact⟨a,qe,gf,by rw[JE cv];exact Y,by rw[JE cv];exact L,by rw[bD (ne h3)];exact h3,h4,h5⟩
 .have look:∀{j:Nat} {a:x7!},j∈i::own->(Z.set i ce!)[j]?=some (some fl_)->(j=i/\a=p)\/(j≠i/\j∈own/\Z[j]?=some (some fl_)/\a≠p):=λ{j a} hj e=>by
   by_cases cv:i=j
   .subst cv;rw[KC hl]at e;cases e;exact .inl bi_
   .rw[JE cv]at e;have hm:j∈own:=(HN.mp hj).elim xm! id;obtain⟨a',qe,gf,Y,L,h3,h4,h5⟩:=s.or.own_ j hm;rw[e]at L;cases L;exact .inr ⟨HR cv,hm,e,ne h3⟩
  obtain⟨z1,z2⟩|⟨z1,z2,z3,z4⟩:=look hj e1
  .obtain⟨y1,y2⟩|⟨y1,y2,y3,y4⟩:=look hk e2
   .exact absurd (z1.trans y1.symm) b8
   .rw[z2];exact HR y4
  .obtain⟨y1,y2⟩|⟨y1,y2,y3,y4⟩:=look hk e2
   .rw[y2];exact z4
   .exact s.or.dis j z2 k y2 b8 a b z3 y3
 .by_cases cv:i=j
  .subst cv;rw[KC hl]at e;cases e;exact s.ext.h.free hp
  .rw[JE cv]at e;exact s.fr j ((HN.mp hj).elim xm! id) a e
def pP{i:Nat}{p3 p4:Pos}(hN:bv_)(hi:ak_)(J:bw!)(h:j0_)(bu:bp!:=by decide)
  (hf:X.fn x=true\/X.env.scope.names.lookup x=some .local:=by first|exact .inl rfl|exact .inr rfl|assumption)(b6:swapsWith (.List es p2) (some (.Name x p3)) p4.line X.env=pure false:=by rfl):DS X own (i::own) (.Assign [.Name x p3] (.List es p2) p4) (Mu i fs):=⟨λG0 F0 h1 s Z H E I ⟨G,ρ,r,er,e',k⟩=>by
  refine b0y hN hi J j1_ b6 hf h1 s Z H E I ?_;have hl:i<f9!:=by rw[I.len];exact(IL.mp hi).1
  obtain⟨ds,e1,e2⟩:=HJ.mp e';split at e2
  .rename_i hsz;cases e2;exact⟨G,ρ,ds,er.or,e1,λvs G' H' x r=>⟨by rw[<-aL r];exact gJ hsz,λp hp=>k G' _ _ ((hq_).ownNew bu hl r hp)⟩⟩
  .cases e2⟩
def SR.upd{K:yS!}{G0 F0 G H:Hp}{Z:St}{ρ:Ae}{i:Nat}(s:ft_)(hi:eh!)(hp:wp!)(r:ke!):
  SR K own G0 F0 G jR! Z oY_:=by
 obtain⟨p',qe,gf,Y,L,h3,h4,h5⟩:=s.or.own_ i hi;rw[hp]at L;cases L;have hG:∀{b u},G b=some u->b≠p:=λe=>cN e h4;have hF:∀{b u},F0 b=some u->b≠p:=λe=>cN e (s.fr i hi p hp);have ze:i<hb!:=(kf!).1;refine⟨⟨xm_,by rw[LO,s.or.len],xl_,ke_,s.or.dis⟩,⟨s.ext.g,λb u e=>by rw[bD (hF e)];exact s.ext.h b u e,xm_,s.ext.new⟩,s.fr⟩
 .have cv:i≠j:=λz=>n (z▸hi);rw[JE cv]at q;exact s.or.at_ j d q n
 .by_cases cv:i=j
  .subst cv;exact⟨p,ds,vs,by rw[KC ze],hp,cC,h4,r⟩
  .obtain⟨a,ZE,ZF,g1,g2,g3,g4,g5⟩:=s.or.own_ j hj;have ne:a≠p:=HR (s.or.dis i hi j hj cv p a hp g2);exact⟨a,ZE,ZF,by rw[JE cv];exact g1,g2,by rw[bD ne];exact g3,g4,g5⟩
def Px(i:Nat)(f:e!):Ae->Option Fl:=λρ=>(an_).bind λd=>match ρ[i]? with|some (some (.lst ds))=>if h!<big then some xn_ else none|_=>none
def uC{i:Nat}{x:Str}{aj ah:Pos}(bu:eh!:=by decide)(h:do_)(hN:ak_:=by rfl)(hv:cs_:=by first|exact Or.inl rfl|exact Or.inr b!|exact Or.inr aH!)
  (hd:F_:=by decide)(bz:ct!:=by decide)
  (b9:hr!:=by rfl)(g7:((jv!).all cA!&&(cA_).all cB!
   &&decide xo!)=true:=by rfl) (g8:d7_:=by rfl)
  (gw:attributeBase br! "append" X.env kf_=eval br! X.env:=by rfl) (g9:hr_:=by rfl) (ke:swapsWith xp! none pos.line X.env=pure false:=by rfl):
  DS X own own (.Expr xp! pos) (Px i f):=⟨λG0 F0 h1 s Z H E I ⟨G,ρ,r,er,e',k⟩=>by
  refine vV (a0m NZ PySem.F.slot_list_append PySem.F.type_list_append a0w jU_ xp_ gw g7 g8 b9 g9) ke h1 s Z H E I ?_;obtain⟨d,e1,e2⟩:=HJ.mp e';obtain⟨p,ds,vs,Y,L,h3,h4,h5⟩:=er.or.own_ i bu;rw[Y]at e2;simp only at e2;split at e2
  .rename_i hl;cases e2;refine⟨fv!,L,o1!,G,ρ,d,er.or,e1,λv G' H' x r=>⟨p,vs,v,rfl,rfl,x.h _ _ h3,?_,?_⟩⟩
   .rw[<-aL h5];exact IT hl (cY y!)
   .exact k G' Z _ ((hq_).upd bu L (dG o1_ (An.cons r An.nil)))
  .cases e2⟩
def Vb(i:Nat)(fx fv:e!):Ae->Option Fl:=λρ=>(fv ρ).bind λd=>(fx ρ).bind λx=>match x,ρ[i]? with|.int j,some (some (.lst ds))=>(o2!).map λk=>.nx xq_|_,_=>none
def c2o{i:Nat}{x:Str}{fx fv:e!}(bu:eh!:=by decide)(J:xr!)(hv:DE X own e fv)(hN:ak_:=by rfl)(zg:cs_:=by first|exact Or.inl rfl|exact Or.inr b!|exact Or.inr aH!)
  (hd:F_:=by decide)(bz:ct!:=by decide)
  (ha:∀v,assign xr_ X.env v=(do
   let ov <-holding [v] kf_
   let iv <-holding [v,ov] (eval ix X.env)
   standAt p2
   holding eU_ mx!
   release eU_ []):=by intro _;rfl)
  (hs:swapsWithSole kg_ e pos.line X.env=pure false:=by rfl) (hw:swappedStores kg_ e X.env=pure none:=by rfl)
  (Y:(assignEach kg_ X.env).map A_=[assign xr_ X.env]:=by rfl):
  DS X own own (.Assign kg_ e pos) (Vb i fx fv):=⟨λG0 F0 h1 s Z H E I ⟨G,ρ,r,er,e',k⟩=>by
  refine b9l hv.ok (b9r xs_ J.ok a6g ha) hs hw Y h1 s Z H E I ?_;obtain⟨d,e1,e2⟩:=HJ.mp e';obtain⟨z,e3,e4⟩:=HJ.mp e2;obtain⟨p,ds,vs,Y,L,h3,h4,h5⟩:=er.or.own_ i bu;rw[Y]at e4;cases z<;>first|cases e4|skip
  rename_i j;obtain⟨n,e5,rfl⟩:=HU.mp (show(o2!).map _=some r from e4);refine⟨G,ρ,d,er.or,e1,λv G' H' x r=>⟨fv!,L,G',ρ,dS_,er.or.grow x,e3,xt!⟩⟩;cases bG r2;refine⟨p,vs,j,n,rfl,rfl,xt_,by rw[<-aL h5];exact e5,?_⟩;exact k G2 Z _ (((hq_).grow x2).upd bu L (xA (r.mono x2.g) n ((o1_).mono x2.g)))⟩
def Mg(i:Nat)(fx:e!):Ae->Option D:=λρ=>(fx ρ).bind λx=>match x,ρ[i]? with|.int j,some (some (.lst ds))=>Dc ds j|_,_=>none
def uD{i:Nat}{x:Str}{fx:e!}(bu:eh!:=by decide)(J:xr!)(hs:Qh ix)(hN:ak_:=by rfl)(zg:cs_:=by first|exact Or.inl rfl|exact Or.inr b!|exact Or.inr aH!)
  (hd:F_:=by decide)(bz:ct!:=by decide):DE X own (.Subscript br! ix pos) (Mg i fx):=
 eX (c0b b4p xs_ J.ok hs) λZ G H Q ρ d er e k=>by
  obtain⟨z,e3,e4⟩:=HJ.mp e;obtain⟨p,ds,vs,Y,L,h3,h4,h5⟩:=er.own_ i bu;rw[Y]at e4;cases z<;>first|cases e4|skip
  rename_i j;have e5:Dc ds j=some d:=e4;obtain⟨v,e6,r6⟩:=qB h5 e5;refine⟨fv!,L,G,ρ,dS_,er,e3,xt!⟩;cases bG r2;exact⟨p,vs,j,v,rfl,rfl,Fz.of (x2.h _ _ h3),e6,k v G2 H2 x2 (r6.mono x2.g)⟩
def Rl(bnd:ai_)(q:aU!):List D->Ae->Option Fl
 |[],ρ=>some aK_
 |d::ds,ρ=>(kc!).bind λai=>(q ai).bind λr=>match r with|.nx bi=>Rl bnd q ds bi|.rt d=>some a0_
def Rv(fi:as_)(bnd:ai_)(q:aU!):Ae->Option Fl:=λρ=>(fi ρ).bind λds=>Rl bnd q ds ρ
def Rp(F0 G1:Hp):Hp:=λb=>match F0 b with|some o=>some o|none=>G1 b
def SR.base{K:yS!}{G0 F0 G1 H1:Hp}{Z:St}{ρ:Ae}(s:SR K own G0 F0 G1 H1 Z ρ):SR K own G1 hs! G1 H1 Z ρ:=by
 refine⟨s.or,⟨Bk.refl _,jR_,s.or.sub,dr_⟩,xu!⟩
 .unfold Rp at e;show"!6"
  .rename_i o ho;cases e;exact s.ext.h b _ ho
  .exact s.or.sub b u e
 .obtain⟨p',ds,vs,Y,L,h3,h4,h5⟩:=s.or.own_ i hi;rw[e]at L;cases L;unfold Rp;rw[s.fr i hi p e];exact h4
def yP{G0 F0 G1 H1 G' H':Hp}(x:xu_)(y:Co G1 hs! G' H'):Co G0 F0 G' H':=by
 refine⟨x.g.trans y.g,λb u e=>y.h b u ?_,y.sub,bo_⟩
 .unfold Rp;rw[e]
 .obtain z|z:=y.new b h
  .exact x.new b z
  .right;unfold Rp at z;split at z
   .cases z
   .assumption
def SR.unbase{K:yS!}{G0 F0 G1 H1 G' H':Hp}{Z:St}{ρ:Ae}(x:xu_)(s:SR K own G1 hs! G' H' Z ρ):SR K own G0 F0 G' H' Z ρ:=
 ⟨s.or,yP x s.ext,λi hi p e=>by
  have z:=s.fr i hi p e;unfold Rp at z;split at z
  .cases z
  .assumption⟩
def Cg(i:Nat):D->Ae->Option Ae:=λd ρ=>some cf!
def b2a{i:Nat}(hp:go!)(hc:a4!)(be:DI X own dq! iter fi)(hN:bv_)(hi:ak_)(J:bw!)(hb:Ya X own own body q1)(bu:bp!:=by decide)
  (hf:X.fn x=true\/X.env.scope.names.lookup x=some .local:=by first|exact .inl rfl|exact .inr rfl|assumption)(hs:c7!:=by intro _;rfl):
  DS X own own (.For dq! iter body [] pos) (Rv fi (Cg i) q1):=⟨λG0 F0 h1 s Z H E I ⟨G,ρ,r,er,e',k⟩=>by
 obtain⟨ds,e1,e2⟩:=HJ.mp e';have dr:Uq X body (λE Z H=>∃A B,DF X.K A B own own q1 E Z H):=λh1 s Z H E I ⟨A,B,h⟩=>hb.ok A B h1 s Z H E I h;refine b9k hp hc be.ok (aZ hN hi J hf) dr hs h1 s Z H E I ⟨G,ρ,ds,er.or,e1,xf!⟩;have VE:Co G0 F0 G1 H1:=er.ext.trans x1;refine⟨λn m σ H'=>n<=h!/\m=h! - n/\∃G' ρ',SR X.K own G1 hs! G' H' σ ρ'/\Rl (Cg i) q1 ol_ ρ'=some r,
  ⟨h!,JS _,rfl,G1,ρ,(er.grow x1).base,e2⟩,?_⟩
 rintro n m σ H' ⟨hn,rfl,G',ρ',cn,e3⟩;obtain⟨nh,nj⟩:=f7 n G' H' cn.ext.g cn.or.sub;by_cases am:n<h!
 .right;have hd:ds[n]?=some ds[n]:=by simp[am]
  have zd:ds.drop n=ds[n]::ds.drop cJ_:=MD am;rw[zd]at e3;unfold Rl at e3;obtain⟨ai,e4,e3⟩:=HJ.mp e3;obtain⟨r1,e5,e3⟩:=HJ.mp e3;cases e4;obtain⟨go,yl⟩:=nh _ hd;refine⟨go,λdb H2=>∃G2 bi,SR X.K own G1 hs! G2 H2 db bi/\Rl (Cg i) q1 (ds.drop cJ_) bi=some r,λdb H2 ⟨G2,bi,Y,L⟩=>⟨h! - cJ_,v!,am,rfl,G2,bi,Y,L⟩,kc_⟩;obtain⟨G2,x2,r2⟩:=yl v H2 hy;refine⟨G1,Rp F0 G1,G2,_,r1,(cn.grow x2).set bu r2,e5,?_⟩;cases r1 with
  |nx bi=>exact λG3 gr H3 j9=>⟨G3,bi,j9,e3⟩
  |rt d=>
   cases e3;exact λw G3 H3 x3 r3=>k w G3 H3 (yP VE x3) r3
 .left;have iz:n=h!:=by omega
  refine o3!;rw[iz,QH]at e3;cases e3;exact k G' σ H' (SR.unbase VE cn)⟩
def a6d{K:yS!}{G H:Hp}{N:q!}{ds:c!}(s:K_)(r:ke!):OR K [] G H (L2.Na N vs) hs_:=by
 have hl:=aL r;unfold L2.Na;refine⟨s,by simp[hl],op!,as!,as!⟩;by_cases hi:i<h!
 .rw[KA gK_,JC]at q;obtain⟨d',Y,L⟩:=HU.mp q;cases L;obtain⟨v,h3,h4⟩:=iT r Y;exact⟨v,by rw[KA (by simpa[<-hl]using hi),JC,h3];rfl,h4⟩
 .rw[e7_,OB]at q;split at q<;>cases q
end
def d0p{K:yS!}{mg:z!}{st:Stmt}{N ps:q!}{k:Nat}{hx:l!}{q:aU!}{g:ai!}
  (F:xv_)(S:d9_)
  (hb:∀(ag:x5!) (A:x6!) (outer:ax!) (s:yR!) (H:Hp) (E:XK),Al k o3_->Ya (o4!).nox [] hx bQ_ q)
  (hg:∀ds d,h!=V_->g ds=some d->q hs_=some a0_\/∃ρ,q hs_=some aK_/\d=.non):
  Fq P w K mg base Qf V! ae fd ps kh!:=by
 refine xw!;obtain⟨hl,G,ds,d,sub,r,e,kk⟩:=h;refine⟨_,(xw_).ok G H,?_⟩;have er:=a6d (N:=N) sub r;rcases hg ds d (by rw[aL r];exact hl) e with z|⟨ρ,z,rfl⟩
 .exact⟨G,_,_,xx!,z,λv G' H' x r=>kk v G' H' x r⟩
 .exact⟨G,_,_,xx!,z,λG' σ H' cn=>kk _ G' H' cn.ext Ax.non⟩
mutual
noncomputable def En:D->D->Bool
 |.non,.non=>true
 |.bl a,.bl b=>a==b
 |.bl a,.int b=>u1_==b
 |.int a,.bl b=>a==u2!
 |.int a,.int b=>a==b
 |.str a,.str b=>a==b
 |.tup xs,.tup ys=>Jh xs ys
 |.lst xs,.lst ys=>Jh xs ys
 |_,_=>false
noncomputable def Jh:List D->List D->Bool
 |[],[]=>true
 |x::xs,y::ys=>En x y&&Jh xs ys
 |_,_=>false
end
mutual
noncomputable def Bi:D->Bool
 |.fn _=>false
 |.dk _=>false
 |.tup xs=>By xs
 |.lst xs=>By xs
 |_=>true
noncomputable def By:List D->Bool
 |[]=>true
 |d::ds=>Bi d&&By ds
end
section
variable{X:Cx}{h1:List (Addr×Obj)}{Z:St}{H:Hp}{s:yR!}
def wN(I:d_)(h:ki!)(h':Fz X.K H a ws):False:=by obtain⟨_,_,⟨o,e,c,_⟩,_⟩:=I.tuple h;obtain⟨_,_,⟨o',n,e',c',_⟩,_⟩:=I.list h';rw[e]at e';cases e';rw[c]at c';exact absurd c' d!
mutual
theorem a3a(I:d_):∀(d d':D) (v:V),Bi d=true->Bi d'=true->Ax X.K H d v->Ax X.K H d' v->d=d'
 |.non,d',v,n,n',r,r'=>by
  cases eH r;cases d'<;>first
   |rfl
   |(unfold Ax at r';cases r';done)
   |(obtain⟨a,vs,e,_⟩:=bS r';cases e)
   |(obtain⟨a,vs,e,_⟩:=bT r';cases e)
   |(unfold Bi at n';cases n')
 |.bl b,d',v,n,n',r,r'=>by
  cases dA r;cases d'<;>first
   |(cases dA r';rfl;done)
   |(unfold Ax at r';cases r';done)
   |(obtain⟨a,vs,e,_⟩:=bS r';cases e)
   |(obtain⟨a,vs,e,_⟩:=bT r';cases e)
   |(unfold Bi at n';cases n')
 |.int b,d',v,n,n',r,r'=>by
  cases bG r;cases d'<;>first
   |(cases bG r';rfl;done)
   |(unfold Ax at r';cases r';done)
   |(obtain⟨a,vs,e,_⟩:=bS r';cases e)
   |(obtain⟨a,vs,e,_⟩:=bT r';cases e)
   |(unfold Bi at n';cases n')
 |.str b,d',v,n,n',r,r'=>by
  cases cI r;cases d'<;>first
   |(cases cI r';rfl;done)
   |(unfold Ax at r';cases r';done)
   |(obtain⟨a,vs,e,_⟩:=bS r';cases e)
   |(obtain⟨a,vs,e,_⟩:=bT r';cases e)
   |(unfold Bi at n';cases n')
 |.tup xs,d',v,n,n',r,r'=>by
  obtain⟨a,vs,rfl,q,rr⟩:=bS r;cases d' with
  |tup ys=>
   obtain⟨a',gf,e,q',b7⟩:=bS r';cases e;have:=I.tuple_inj q q';subst this;unfold Bi at n n';rw[xy_]
  |lst ys=>
   obtain⟨a',gf,e,q',b7⟩:=bT r';cases e;exact(wN I q q').elim
  |fn b=>unfold Bi at n';cases n'
  |dk b=>unfold Bi at n';cases n'
  |non=>cases eH r'
  |bl b=>cases dA r'
  |int b=>cases bG r'
  |str b=>cases cI r'
 |.lst xs,d',v,n,n',r,r'=>by
  obtain⟨a,vs,rfl,q,rr⟩:=bT r;cases d' with
  |lst ys=>
   obtain⟨a',gf,e,q',b7⟩:=bT r';cases e;have:=I.list_inj q q';subst this;unfold Bi at n n';rw[xy_]
  |tup ys=>
   obtain⟨a',gf,e,q',b7⟩:=bS r';cases e;exact(wN I q' q).elim
  |fn b=>unfold Bi at n';cases n'
  |dk b=>unfold Bi at n';cases n'
  |non=>cases eH r'
  |bl b=>cases dA r'
  |int b=>cases bG r'
  |str b=>cases cI r'
 |.fn a,d',v,n,n',r,r'=>by unfold Bi at n;cases n
 |.dk a,d',v,n,n',r,r'=>by unfold Bi at n;cases n
theorem xB(I:d_):∀(ds es:c!) (vs:n_),By ds=true->By es=true->An X.K H ds vs->An X.K H es vs->ds=es
 |[],es,vs,n,n',r,r'=>by
  cases cS r;cases es with
  |nil=>rfl
  |cons e es=>obtain⟨v,t,z,_⟩:=bR r';cases z
 |d::ds,es,vs,n,n',r,r'=>by
  obtain⟨v,t,rfl,r1,r2⟩:=bR r;cases es with
  |nil=>cases cS r'
  |cons e es=>
   obtain⟨v',t',z,t6,t9⟩:=bR r';cases z;unfold By at n n';rw[IZ]at n n';rw[a3a I d e v n.1 n'.1 r1 t6,xB I ds es t n.2 n'.2 r2 t9]
end
mutual
theorem yQ:∀d:D,Bi d=true->En d d=true
 |.non,_=>by simp[En]
 |.bl b,_=>by simp[En]
 |.int i,_=>by simp[En]
 |.str s,_=>by simp[En]
 |.tup xs,h=>by unfold En;exact tY xs xz_
 |.lst xs,h=>by unfold En;exact tY xs xz_
 |.fn a,h=>by simp[Bi]at h
 |.dk k,h=>by simp[Bi]at h
theorem tY:∀ds:List D,By ds=true->Jh ds ds=true
 |[],_=>by simp[Jh]
 |d::ds,h=>by
  unfold By at h;rw[IZ]at h;unfold Jh;rw[yQ d h.1,tY ds h.2];rfl
end
def a6q(I:d_)(d d':D)(v:V)(n:cL!)(n':fv_)(r:er!)(r':Ax X.K H d' v):En d d'=true:=by rw[<-a3a I d d' v n n' r r'];exact yQ d n
def oC(A:x6!):A.in1.units=A.units+1:=rfl
def nL:∀(xs ys:c!),m_=ad!->((List.range m_).all λj=>En (xs.getD j .non) (ys.getD j .non))=Jh xs ys
 |[],[],_=>rfl
 |x::xs,y::ys,h=>by
  have ih:=nL xs ys kj!;unfold Jh;rw[IE,List.range_succ_eq_map,NI,<-ih,List.all_map];rfl
 |[],_::_,h=>by simp at h
 |_::_,[],h=>by simp at h
def nH:∀(xs ys:c!),m_≠ad!->Jh xs ys=false
 |[],[],h=>absurd rfl h
 |x::xs,y::ys,h=>by
  unfold Jh;rw[nH xs ys kj!,QS]
 |[],_::_,_=>rfl
 |_::_,[],_=>rfl
def rD{ds es:c!}{us us':i_}(rd:ht!)(re:ht_)(rv:eO!)(ak:Bc ws us')
  (h:∀(j:Nat) u u',us[j]?=some u->us'[j]?=some u'->SeqAt.EqAt A s u u' kj_):
  ∀j (Y:j<kk!) (L:j<o5_),SeqAt.EqAt A s cD![j] o6![j] kj_:=λj Y L=>by
 have l1:j<aw!:=by simpa using Y
 have l2:j<us'.length:=by simpa using L
 exact h j _ _ (by simp[l1]) (by simp[l2])
def a0j{ds es:c!}{A:x6!}(I:d_)(qa:ki!)(qb:Gf X.K H b ws)(rd:ht!)(re:ht_)(hu:at!)
  (h:kk_):SeqAt.RcAt A s ag! d4! (Jh ds es):=by
 obtain⟨us,rv,p1,_⟩:=I.tuple qa;obtain⟨us',ak,p2,_⟩:=I.tuple qb;have Y:=aL rd;have L:=aL re;have h3:=gq_;have h4:=kl!;have z:=SeqAt.RcAt.tuples (A:=A) (e:=kl_) p1 p2 hu km!;have e:xA!=Jh ds es:=by
  show"#2"
  .rw[hl,Nat.min_self,<-hl,km_,hl];simp
  .rw[kn!];have:(h!==aj!)=false:=by simpa using hl
   rw[this,QS]
 rw[e]at z;exact z
def a6w{ds es:c!}{A:x6!}(I:d_)(qa:o6_)(qb:Fz X.K H b ws)(rd:ht!)(re:ht_)(hu:at!)
  (h:kk_):SeqAt.RcAt A s ag! d4! (Jh ds es):=by
 show"!A";have h4:=kl!;by_cases hl:h!=aj!
 .have z:=SeqAt.RcAt.lists (A:=A) (e:=kl_) p1.isList p2.isList oB_ hu km!;rw[HS,<-h3,<-Y,km_]at z;exact z
 .rw[kn!];exact SeqAt.RcAt.lists_lengths p1.isList p2.isList xA_ hu
def c1x(I:d_)(q:ki!):∃items,s.heap.IsTuple a items:=let⟨its,_,p,_⟩:=I.tuple q;⟨_,p⟩
def b7e(I:d_)(q:o6_):∃items,s.heap.IsList a items:=let⟨its,_,p,_⟩:=I.list q;⟨_,p.isList⟩
inductive RV(X:Cx)(H:Hp)(s:yR!):D->Value->Prop
 |non:RV X H s .non .none
 |bl (b:Bool):RV X H s bK_ mk!
 |int (i:Int) (t:Tok):RV X H s bx! dE_
 |str (x:Str) (t:Tok):RV X H s dL! lM!
 |tup {xs:c!} {a:x7!} {its:af!}:s.heap.IsTuple a its->RV X H s bI! ag!
 |lst {xs:c!} {a:x7!} {its:af!}:s.heap.IsList a its->RV X H s T! ag!
def a0g(I:d_)(n:cL!)(r:er!)(ru:bw_):RV X H s d u:=by
 cases d with
 |non=>cases eH r;cases ru;exact .non
 |bl b=>cases dA r;cases ru;exact .bl b
 |int b=>cases bG r;obtain⟨t,rfl⟩:=ru;exact .int b t
 |str b=>cases cI r;obtain⟨t,rfl⟩:=ru;exact .str b t
 |tup ys=>obtain⟨a,ws,rfl,q,_⟩:=bS r;cases ru;obtain⟨its,p⟩:=c1x I q;exact .tup p
 |lst ys=>obtain⟨a,ws,rfl,q,_⟩:=bT r;cases ru;obtain⟨its,p⟩:=b7e I q;exact .lst p
 |fn a=>unfold Bi at n;cases n
 |dk a=>unfold Bi at n;cases n
def nI(I:d_){A:x6!}(n:cL!)(n':fv_)(hu:at!)(r:er!)(r':hu!)(ru:bw_)(av:hu_)(hT:∀xs ys,d=.tup xs->d'=.tup ys->SeqAt.EqAt A s u u' ds!)(hL:∀xs ys,d=.lst xs->d'=.lst ys->SeqAt.EqAt A s u u' ds!):SeqAt.EqAt A s u u' ds!:=by
 show"!`"
 all_goals first|exact hT _ _ rfl rfl|exact hL _ _ rfl rfl|(unfold En;with_reducible first|exact .none_none|exact .same _|exact .none_bool _|exact .none_int _ _|exact .none_str _ _|exact .none_tuple ‹_› hu|exact .none_list ‹_› hu|exact .bool_none _|exact .bool_bool _ _|exact .bool_int _ _ _|exact .bool_str _ _ _|exact .bool_tuple _ ‹_› hu|exact .bool_list _ ‹_› hu|exact .int_none _ _|exact .int_bool _ _ _|exact .int_int _ _ _ _|exact .int_str _ _ _ _|exact .int_tuple _ _ ‹_› hu|exact .int_list _ _ ‹_› hu|exact .str_none _ _|exact .str_bool _ _ _|exact .str_int _ _ _ _|exact .str_str _ _ _ _|exact .str_tuple _ _ ‹_› hu|exact .str_list _ _ ‹_› hu|exact .tuple_none ‹_› hu|exact .tuple_bool _ ‹_› hu|exact .tuple_int _ _ ‹_› hu|exact .tuple_str _ _ ‹_› hu|exact .tuple_list ‹_› ‹_› hu|exact .list_none ‹_› hu|exact .list_bool _ ‹_› hu|exact .list_int _ _ ‹_› hu|exact .list_str _ _ ‹_› hu|exact .list_tuple ‹_› ‹_› hu)
def c8o(I:d_){A:x6!}(n:cL!)(n':fv_)(hu:at!)(r:er!)(r':hu!)(ru:bw_)(av:hu_)(hT:∀xs ys,d=.tup xs->d'=.tup ys->SeqAt.RcAt A s u u' ds!)(hL:∀xs ys,d=.lst xs->d'=.lst ys->SeqAt.RcAt A s u u' ds!):SeqAt.RcAt A s u u' ds!:=by
 show"!`"
 all_goals first|exact hT _ _ rfl rfl|exact hL _ _ rfl rfl|(unfold En;with_reducible first|exact .none_none|exact .same _|exact .none_bool _|exact .none_int _ _|exact .none_str _ _|exact .none_tuple ‹_› hu|exact .none_list ‹_› hu|exact .bool_none _|exact .bool_bool _ _|exact .bool_int _ _ _|exact .bool_str _ _ _|exact .bool_tuple _ ‹_› hu|exact .bool_list _ ‹_› hu|exact .int_none _ _|exact .int_bool _ _ _|exact .int_int _ _ _ _|exact .int_str _ _ _ _|exact .int_tuple _ _ ‹_› hu|exact .int_list _ _ ‹_› hu|exact .str_none _ _|exact .str_bool _ _ _|exact .str_int _ _ _ _|exact .str_str _ _ _ _|exact .str_tuple _ _ ‹_› hu|exact .str_list _ _ ‹_› hu|exact .tuple_none ‹_› hu|exact .tuple_bool _ ‹_› hu|exact .tuple_int _ _ ‹_› hu|exact .tuple_str _ _ ‹_› hu|exact .tuple_list ‹_› ‹_› hu|exact .list_none ‹_› hu|exact .list_bool _ ‹_› hu|exact .list_int _ _ ‹_› hu|exact .list_str _ _ ‹_› hu|exact .list_tuple ‹_› ‹_› hu)
mutual
theorem c2l(I:d_):∀(d d':D) (A:x6!) (v v':V) (u u':x5!),Bi d=true->Bi d'=true->A.units+Il d<cLine->Ax X.K H d v->Ax X.K H d' v'->Bu v u->Bu v' u'->SeqAt.EqAt A s u u' ds!
 |.non,d',A,v,v',u,u',n,n',hu,r,r',ru,av=>nI I n n' a! r r' ru av bd_ bd_
 |.bl _,d',A,v,v',u,u',n,n',hu,r,r',ru,av=>nI I n n' a! r r' ru av bd_ bd_
 |.int _,d',A,v,v',u,u',n,n',hu,r,r',ru,av=>nI I n n' a! r r' ru av bd_ bd_
 |.str _,d',A,v,v',u,u',n,n',hu,r,r',ru,av=>nI I n n' a! r r' ru av bd_ bd_
 |.fn _,d',A,v,v',u,u',n,n',hu,r,r',ru,av=>nI I n n' a! r r' ru av bd_ bd_
 |.dk _,d',A,v,v',u,u',n,n',hu,r,r',ru,av=>nI I n n' a! r r' ru av bd_ bd_
 |.tup xs,d',A,v,v',u,u',n,n',hu,r,r',ru,av=>nI I n n' a! r r' ru av (λ_ ys e e'=>by
  cases e;subst e';obtain⟨a,vs,rfl,q,rr⟩:=bS r;obtain⟨b,ws,rfl,q',b7⟩:=bS r';cases ru;cases av;by_cases lm:a=b
  .subst lm;rw[xB!];exact .same _
  .unfold Bi at n n';unfold Il at hu;unfold En;exact .of_refs lm (a0j I q q' rr b7 a! λus us' rv ak=>lG I xs ys A.in1 vs ws us us' n n' fw! rr b7 rv ak)) bd_
 |.lst xs,d',A,v,v',u,u',n,n',hu,r,r',ru,av=>nI I n n' a! r r' ru av bd_ (λ_ ys e e'=>by
  cases e;subst e';obtain⟨a,vs,rfl,q,rr⟩:=bT r;obtain⟨b,ws,rfl,q',b7⟩:=bT r';cases ru;cases av;by_cases lm:a=b
  .subst lm;rw[xB!];exact .same _
  .unfold Bi at n n';unfold Il at hu;unfold En;exact .of_refs lm (a6w I q q' rr b7 a! λus us' rv ak=>lG I xs ys A.in1 vs ws us us' n n' fw! rr b7 rv ak))
theorem lG(I:d_):∀(ds es:c!) (A:x6!) (vs ws:n_) (us us':i_),By ds=true->By es=true->A.units+Dq ds<cLine->An X.K H ds vs->An X.K H es ws->Bc vs us->Bc ws us'->
  ∀(j:Nat) u u',us[j]?=some u->us'[j]?=some u'->SeqAt.EqAt A s u u' kj_
 |[],es,A,vs,ws,us,us',n,n',hu,r,r',rv,ak,j,u,u',e,e'=>by
  cases cS r;cases rv;simp at e
 |d::ds,es,A,vs,ws,us,us',n,n',hu,r,r',rv,ak,j,u,u',e,e'=>by
  obtain⟨v,t,rfl,r1,r2⟩:=bR r;cases es with
  |nil=>
   cases cS r';cases ak;simp at e'
  |cons c es=>
   obtain⟨w,t',rfl,t6,t9⟩:=bR r';unfold By at n n';rw[IZ]at n n';unfold Dq at hu;cases rv with
   |cons qf ua=>
    cases ak with
    |cons ZG ZH=>
     cases j with
     |zero=>
      simp at e e';subst e e';exact c2l I d c A v w _ _ n.1 n'.1 a! r1 t6 qf ZG
     |succ j=>
      exact lG I ds es A t t' _ _ n.2 n'.2 a! r2 t9 ua ZH j u u' cV_ (by simpa using e')
end
def c8p(I:d_)(d d':D){A:x6!}(n:cL!)(n':fv_)(hu:xB_)(r:er!)(r':hu!)(ru:bw_)(av:hu_):SeqAt.RcAt A s u u' ds!:=
 c8o I n n' a! r r' ru av (λxs ys e e'=>by
  subst e e';obtain⟨a,vs,rfl,q,rr⟩:=bS r;obtain⟨b,ws,rfl,q',b7⟩:=bS r';cases ru;cases av;unfold Bi at n n';unfold Il at hu;unfold En;exact a0j I q q' rr b7 a! λus us' rv ak=>lG I xs ys A.in1 vs ws us us' n n' fw! rr b7 rv ak) (λxs ys e e'=>by
  subst e e';obtain⟨a,vs,rfl,q,rr⟩:=bT r;obtain⟨b,ws,rfl,q',b7⟩:=bT r';cases ru;cases av;unfold Bi at n n';unfold Il at hu;unfold En;exact a6w I q q' rr b7 a! λus us' rv ak=>lG I xs ys A.in1 vs ws us us' n n' fw! rr b7 rv ak)
def CC(K:yS!):R2:=λx y H Q=>∃dx dy,Ax K H dx x/\Ax K H dy y/\Bi dx=true/\Bi dy=true/\Il dx<=40/\Q (.bl (En dx dy)) H
def bZ(hu:aL!):Gx X (compareOp .Eq) (CC X.K):=by intro h1 s Z H x y v u Q I rx ry h;obtain⟨dx,dy,r1,r2,n1,n2,hd,q⟩:=h;exact c8p I dx dy n1 n2 a! r1 r2 rx ry X.prog X.w X.xe _ kn_
def Ba:D->D->Option D:=λx y=>if Bi x&&Bi y&&decide (Il x<=40)then some (.bl (En x y))else none
def cB{K:yS!}:Im K (CC K) Ba:=by
 show"!0";unfold Ba at e;show"!6"
 .show"!u";cases e;exact xC_
 .cases e
end
section
variable{X:Cx}{own:List Nat}{e a b c o i tg:Expr}{es:List Expr}{pos p2:Pos}{f fa fb fc fe:Ae->Option D}{fs fi:Ae->Option (List D)}{ft fu:Ae->Option Bool}
def Ce(g g':bd!)(fa fb fc:e!):Ae->Option D:=λρ=>(fp_).bind λx=>(jW_).bind λy=>(g x y).bind λz=>match z with
 |.bl true=>(fc ρ).bind λu=>g' y u
 |.bl false=>some Q!
 |_=>none
def a9d{op fm:CmpOp}{r r':R2}{g g':bd!}(ho:b5_)(hg:ek!)(fh:iU!)(ub:Im X.K r' g')(ha:aa!)(hb:cG_)(hc:DE X own c fc)
  (hm:iU_:=by with_unfolding_all rfl):DE X own iV! xD!:=
 eX (c0c ho fh ha.ok hb.ok hc.ok hm) λZ G H Q ρ d er e k=>by
  obtain⟨x,e1,e⟩:=HJ.mp e;obtain⟨y,e2,e⟩:=HJ.mp e;obtain⟨z,e3,e⟩:=HJ.mp e;refine xD_;have nz:=s1.trans he_;cases z<;>first|cases e|skip
  rename_i bb;cases dA r3;refine xE!;cases bb with
  |true=>
   obtain⟨u,e4,e⟩:=HJ.mp e;exact nB ⟨G3,ρ,u,er.grow nz,e4,λq G4 H4 s4 r4=>ub s4.sub xE_ r4 e λv G5 H5 s5 r5=>k v G5 H5 xF! r5⟩
  |false=>
   cases e;exact nE (k _ G3 H3 nz Ax.bl)
def Yy(f:e!):Ae->Option D:=λρ=>(an_).bind λd=>match d with|.int i=>some (.int (-i))|_=>none
def c2v(h:aa!):DE X own (.UnaryOp .USub a pos) (Yy fa):=
 eX (d2n c8f h.ok) λZ G H Q ρ d er e k=>by
  obtain⟨x,e1,e⟩:=HJ.mp e;cases x<;>first|cases e|skip
  refine fs_;cases bG r1;exact⟨_,rfl,k _ G1 H1 s1 Ax.int⟩
def La:D->Bool
 |.non=>true
 |.bl _=>true
 |.int _=>true
 |.str _=>true
 |_=>false
def a8u{K:yS!}{H:Hp}(h:La d=true)(r:ha_):Nm v=true:=by
 cases d<;>first
  |(cases h;done)
  |(cases eH r;rfl)
  |(cases dA r;rfl)
  |(cases bG r;rfl)
  |(cases cI r;rfl)
def c6f{K:yS!}{H:Hp}(h:La d=true)(h':La d'=true)(r:ha_)(r':Ax K H d' v'):Ye v v'=En d d':=by
 cases d<;>first
  |(cases h;done)
  |skip
 all_goals (cases d'<;>first
  |(cases h';done)
  |skip)
 all_goals first
  |(cases eH r)
  |(cases dA r)
  |(cases bG r)
  |(cases cI r)
 all_goals first
  |(cases eH r')
  |(cases dA r')
  |(cases bG r')
  |(cases cI r')
 all_goals simp[Ye,En]
def a8w{K:yS!}{H:Hp}:∀{ds:c!} {vs:n_},ds.all La=true->An K H ds vs->vs.all Nm=true
 |[],vs,_,r=>by cases cS r;rfl
 |d::ds,vs,h,r=>by
  obtain⟨v,t,rfl,r1,r2⟩:=bR r;rw[NI,IZ]at h;rw[NI,IZ];exact⟨a8u h.1 r1,a8w h.2 r2⟩
def a8v{K:yS!}{H:Hp}(J:La x=true)(rx:Ax K H x v):∀{ds:c!} {vs:n_},ds.all La=true->An K H ds vs->DN v vs=ds.any λd=>En d x
 |[],vs,_,r=>by cases cS r;rfl
 |d::ds,vs,h,r=>by
  obtain⟨w,t,rfl,r1,r2⟩:=bR r;rw[NI,IZ]at h;have ih:=a8v J rx h.2 r2;unfold DN at ih ⊢;rw[MC,MC,ih,c6f h.1 J r1 rx]
def AO:D->Option aR_
 |.tup xs=>some xs
 |.lst xs=>some xs
 |_=>none
def Vh(neg:Bool):D->D->Option D:=λx y=>(AO y).bind λds=>if La x&&ds.all La then some xF_ else none
def d2v{K:yS!}{neg:Bool}:Im K (EW K neg) (Vh neg):=by
 show"!0";show"!G"
 .rename_i h;rw[IZ]at h;cases e;have fin:∀{p:x7!} {vs:n_},(Fz K H p vs\/Gf K H p vs)->An K G ds vs->y=V.ref p->EW K neg x y H Q:=λ{p vs} q r ey=>by
   refine⟨p,vs,ey,q,a8u h.1 rx,a8w h.2 r,?_⟩;rw[a8v h.1 rx h.2 r];show"!t"
  cases dy<;>first|(cases e1;done)|skip
  .cases e1;obtain⟨p,vs,ey,q,r⟩:=bS ry;exact fin (.inr ko!) r ey
  .cases e1;obtain⟨p,vs,ey,q,r⟩:=bT ry;exact fin (.inl (sub.seq q)) r ey
 .cases e
structure Us(X:Cx)(x:Str)(bp:aV!):Prop where
 ex:∃(ad:x7!) (kvs:ok_) (vs:List xG!),X.mg x=some kp_/\o9!=false/\(∀h:Heap,X.K.In h->h.DictOf (mixKind X.prog X.w) ad vs)/\KV kvs vs/\
  (∀y,Nz kvs et!=none↔bp.lookup y=none)/\∀y d,bp.lookup y=some d->∃v,Nz kvs et!=some v/\∀H,Ax X.K H d v
def Yx(bp:aV!)(neg:Bool)(f:e!):Ae->Option D:=λρ=>(an_).bind λd=>match d with|.str y=>some (.bl (if neg then !(o9_).isSome else(o9_).isSome))|_=>none
def We(bp:aV!)(f:e!):Ae->Option D:=λρ=>(an_).bind λd=>match d with|.str y=>bp.lookup y|_=>none
def c6p{x:Str}{bp:aV!}(hd:Us X x bp)(hg:Y_)(ha:aa!)(b6:CT a)(bg:F_:=by decide):DE X own (.Subscript dq! a pos) (We bp fa):=by
 show"#F";refine eX (t:=λZ H Q=>tD X.K own fa Z H λv H1=>∃y u,v=.str y/\Nz kvs et!=some u/\Q u H1) xG_ λZ G H Q ρ d er e k=>?_
 .refine c3v PySem.F.slot_dict_getitem.lookup b6 (kS I hg j6 (dM xH! λv s1 ⟨y,H1,I1,r1,z,u,hz,hu,q1⟩=>?_) bg);subst hz;have dd:=zh _ I1.kIn;obtain⟨w',hw,ak⟩:=Ou.some_of (v:=u) (o:=valueAt vs pa!) (by rw[<-hu];exact zi.val pa!);have ty:s1.TypeIs kp_ "dict":=by
   obtain⟨o,es,ep,Y,L,_⟩:=dd;exact⟨o,Y,L.1⟩
  exact⟨ty,wpAny_getItem_of (knd:=xI!) (k:=pb!) xH_ dd.mapOf hw ⟨u,H1,I1.tok _,ak,q1⟩⟩
 .obtain⟨x,e1,e⟩:=HJ.mp e;cases x<;>first|(cases e;done)|skip
  rename_i y;obtain⟨v,hv,hr⟩:=hs y d e;refine⟨G,ρ,_,er,e1,λw G1 H1 s1 r1=>?_⟩;cases cI r1;exact⟨y,v,rfl,hv,k _ G1 H1 s1 (hr G1)⟩
def Ok(P:yp!)(w:xV!)(K:yS!)(mg:z!)(base:Heap)(k:Nat)(x:Str)(ps:q!)(g:ai!):Prop:=
 ∃ae fd,Fq P w K mg base Qf k ae fd ps kh!/\Fc K fd ps []/\mg x=some bT_/\W.keepIn K bT_=true
def aT{k:Nat}{ps:q!}{g:ai!}{x:Str}(F:xJ_)(hr:b6!)(hg:Y_)(ha:j2!)(ap:wO_)
  (hn:wO!:=by rfl)(bg:F_:=by decide)(he:az!:=by rfl)(a7:a6_:=by rfl):
  DE X own bB_ oB!:=by
 obtain⟨ae,fd,Y,L,h3,h4⟩:=F;exact c6q Y hr hg h3 h4 L ha hn ap bg he a7
def Zw(P:yp!)(w:xV!)(K:yS!)(mg:z!)(base:Heap)(k n:Nat)(bp:pb_):Prop:=
 ∀ae g,bp ae=some g->∃fd ps,V_=n/\Fq P w K mg base Qf k ae fd ps kh!/\Fc K fd ps []/\W.keepIn K bT_=true
def Pg(bp:pb_)(i:Nat)(fs:as_):Ae->Option D:=λρ=>(Aa i ρ).bind λd=>match d with|.fn ae=>(bp ae).bind λg=>(fr!).bind g|_=>none
def c2w{k n j:Nat}{bp:pb_}{x:Str}(F:Zw X.prog X.w X.K X.mg X.base k n bp)(hr:b6!)(ha:j2!)(ap:wP!)
  (hj:j∉own:=by decide)(hN:vS!:=by rfl)(hv:cs_:=by first|exact Or.inl rfl|exact Or.inr b!|exact Or.inr aH!)(bg:F_:=by decide)(bz:ct!:=by decide)
  (he:az!:=by rfl)(a7:a6_:=by rfl):
  DE X own bB_ (Pg bp j fs):=⟨by
 intro h1 s Z H Q I h;obtain⟨G,ρ,d,er,e1,kk⟩:=h;obtain⟨z,e2,e1⟩:=HJ.mp e1;cases z<;>first|(cases e1;done)|skip
 rename_i ae;obtain⟨g,e3,e1⟩:=HJ.mp e1;obtain⟨ds,e4,e1⟩:=HJ.mp e1;obtain⟨fd,ps,lp,F1,F2,F3⟩:=F ae g e3;obtain⟨v,Y,L⟩:=er.at_ j _ (join_some e2) hj;cases gD L;refine LJ (dM (mH hN hv bg bz h1 s Z H (λu H'=>u=.ref ae/\H'=H) I ⟨_,Y,rfl,rfl⟩) λu s1 ⟨y,H1,I1,r1,hy,hH⟩=>?_);subst hy hH;cases r1;refine W.callWith_K (h₀:=X.base) I1.ok.mod.kin F3 (dM (ha.ok pos h1 s1 Z H1 _ I1 ⟨G,ρ,ds,er,e4,λvs G2 H2 s2 r2=>(?_:(λvs H2=>Yk X.K ps.length g vs H2 Q E0) vs H2)⟩) λus s2 ⟨vs,H2,I2,r2,q2⟩=>tT_) he a7
 .exact⟨by rw[<-aL r2,ap ρ ds e4,lp],G2,ds,d,s2.sub,r2,e1,λv G3 H3 s3 r3=>kk v G3 H3 he_ r3⟩
 .exact a2z (dvs:=[]) (ds:=[]) F1 hr F2 .nil xE I2 r2 (by rw[IR];exact q2)⟩
def DY(x:Str):It:=⟨xL_,λi H v H'=>H'=H/\∃c,x.cps[i]?=some c/\v=.str ar!,xM!⟩
def AR(f:e!):Ae->Option aR_:=λρ=>(an_).bind λd=>match d with|.str x=>some xM_|_=>none
def c5u{K:yS!}{G1:Hp}{x:Str}:Zf K (DY x) xM_ G1:=by intro i G' H' s1 s2;refine⟨eq!,λhi=>by rw[IK,JU]at hi;exact PD hi.symm⟩;rw[JC]at hd;obtain⟨c,hc,rfl⟩:=HU.mp hd;rw[ND]at hc;refine xN!;obtain⟨e1,c',bv,e2⟩:=hy;subst e1;rw[hc]at bv;cases bv;subst e2;exact⟨G',ka_,Ax.str⟩
def a5z{K:yS!}{x:Str}{St':dR_}(hd:xN_)
  (W:∀A':Around,pc!=none->Walks P w A' it [it] [it] x.cps.size (SignAt x) St')(ZI:∀(A:x6!) (i:Nat) (s:yR!) (Q:q_) (E:q_),St' i s.heap->Q b4! s->wpAny G_ A (pyIter b4!) Q E s):
  Tk P w K hy! (DY x) [it] it xO_ where
 mem:=by simp
 obj:=λi h st b hb=>by
  have e:b=it:=by simpa using hb
  subst e;exact hd i h st.2
 keep:=λi h h' st k=>⟨st.1,by
  have Wd:=W callerA rfl;exact Wd.frame i h h' st.2 λb hb o e=>k b hb o e⟩
 item:=by
  show"!/";show"!2";refine(W X.A bL!).item i s _ _ hg st.2 λv h' tk hv h2 kk=>?_;obtain⟨cc,u,j5,rfl⟩:=hv;show"!]";exact⟨_,rfl,HK ⟨.str ⟨#[cc]⟩,H,I1,⟨u,rfl⟩,⟨rfl,cc,j5,rfl⟩,⟨hg,h2⟩,mE_⟩⟩
 done:=by
  show"!/";show"!2";show"#E";exact(W X.A bL!).done s _ _ st.2 λh' tk kk=>⟨rfl,I.turned mG! f0 f1 f3 f4 f5⟩
 self:=λA i s Q E st h=>ZI A i s Q E st.2 h
def c8u{tl:TE}(hl:PE X a tl):PI X hy! a (λZ H R=>tl Z H λv H1=>∃x,v=.str x/\R (DY x) H1):=by
 intro h1 s Z H R I h;refine dM ss! λv s1 ⟨u,H1,I1,r1,x,J,q⟩=>?_;subst J;obtain⟨t,rfl⟩:=r1;have VG:∀(ty:String) (i:Nat) (h:Heap),h.IsStrIter s1.heap.objs.size ty x t i->∃o,h.get? D!=some o/\∀v,o.data≠.cell v:=λty i h st=>by
  show"##"
 have fin:∀(ob:Obj) (St':dR_),Tk X.prog X.w X.K hy! (DY x) [D!] s1.heap.objs.size xO_->St' 0 (s1.heap.push ob)->
   DU X h1 Z hy! R (.ref D!) {s1 with heap:=s1.heap.push ob}:=λob St' T st=>by
  refine⟨D!,[D!],_,_,H1,rfl,mG_,T,⟨JS _,st⟩,bz!,q⟩;have e:b=D!:=by simpa using hb
  show"!p"
 cases ha:x.cps.all (·<128)with
 |false=>
  exact wpAny_pyIter_wide ha (fin _ _ (a5z xQ! (λA' hA=>Walks.strWide hA _ x t) λA i s Q E st h=>wpAny_pyIter_striter_wide st h) eW_)
 |true=>
  exact wpAny_pyIter_ascii ha (fin _ _ (a5z xQ! (λA' hA=>Walks.strAscii hA _ x t) λA i s Q E st h=>wpAny_pyIter_striter_ascii st h) eW_)
def d0o(h:aa!):DI X own hy! a (AR fa):=a9a (c8u h.ok) λZ G H R ρ ds er e k=>by
 obtain⟨d,e1,e2⟩:=HJ.mp e;cases d with
 |str x=>
  cases e2;refine fs_;cases cI r1;exact⟨x,rfl,k _ G1 H1 s1 c5u⟩
 |_=>cases e2
def zY:∀{ys:q!} {us:i_},Bc xQ_ us->StrsAre us ys
 |[],_,.nil=>.nil
 |y::ys,_,.cons r t=>by
  obtain⟨k,rfl⟩:=r;exact .cons y k (zY t)
def BU(K:yS!):V->List V->Hp->VK->Prop:=λx vs H Q=>∃(z:Str) (p:x7!) (ys:q!),x=.str z/\vs=gS_/\Fz K H p xQ_/\(ku!).sum+ad!*jn_<=16777216/\Q xR! H
def b4h:GJ X "str.join" (BU X.K):=by intro h1 s Z H x xs v us Q I rx r h;obtain⟨z,p,ys,rfl,rfl,hq,hz,q⟩:=h;obtain⟨t,rfl⟩:=rx;obtain⟨u,rfl,r1⟩:=uI r;cases r1;obtain⟨its,rv,pl,_⟩:=I.list hq;exact join_list pl.isList (by simpa using zY rv) hz λt' k=>⟨.str _,H,a3!,L!,q⟩
def Qm:List D->Option (List Str)
 |[]=>some []
 |.str x::r=>(Qm r).map (x::·)
 |_=>none
def wZ{K:yS!}{H:Hp}:∀{ds:c!} {vs:n_} {ys:q!},An K H ds vs->Qm ds=some ys->vs=ys.map V.str
 |[],vs,ys,r,e=>by cases cS r;cases e;rfl
 |d::ds,vs,ys,r,e=>by
  obtain⟨v,t,rfl,r1,r2⟩:=bR r;cases d<;>first|(cases e;done)|skip
  obtain⟨ZJ,e1,rfl⟩:=HU.mp e;cases cI r1;rw[wZ r2 e1];rfl
def Nk:D->D->Option D
 |.str z,.lst xs=>(Qm xs).bind λys=>if(ku!).sum+ad!*jn_<=big then some xR! else none
 |_,_=>none
def Xt(fo fa:e!):Ae->Option D:=λρ=>(fo ρ).bind λx=>(fp_).bind λy=>Nk x y
def c6n{fo:e!}{aj ah:Pos}(ho:DE X own o fo)(ha:aa!)
  (gw:attributeBase o "join" X.env dQ!=eval o X.env:=by rfl)
  (g7:((pe!).all cA!&&(cA_).all cB!
   &&decide pe_)=true:=by rfl)
  (g8:d7_:=by rfl) (hs:kb!:=by rfl) (g9:hr_:=by rfl):
  DE X own (.Call (.Attribute o "join" aj) [a] [] ah) (Xt fo fa):=
 eX (a0m PySem.F.plainAttrs_str PySem.F.slot_str_join PySem.F.type_str_join b4h ho.ok xS! gw g7 g8 hs g9) λZ G H Q ρ d er e k=>by
  show"!<";obtain⟨y,e2,e⟩:=HJ.mp e;unfold Nk at e;show"!6"
  .obtain⟨ys,e3,e⟩:=HJ.mp e;show"!6"
   .show"!F";refine fs_;cases cI r1;refine⟨rfl,G1,ρ,_,dn_,e2,xS_⟩;obtain⟨p,vs,rfl,q,rr⟩:=bT r2;have:=wZ rr e3;subst this;exact⟨_,p,ys,rfl,rfl,s2.sub.seq q,JB hl b_,k _ G2 H2 dp! Ax.str⟩
   .cases e
  .cases e
end
section
variable{prog:yp!}{w:xV!}{A:x6!}{E:Value->Shared->Prop}{s:yR!}
def a3o{n:Nat}{xs:af!}{Q:q_}(g1:xT!)(g2:xT_)(g3:xs[n]?=some v)
  (k:∀h',h'.IsTupleIter jt tt cJ_->Heap.SameBut jt s.heap h'->Q v {s with heap:=h'}):wpAny r_ A xU! Q E s:=by
 show"!7";show"!Z";refine HI (RH eo ed d! (HK ⟨v,rfl,HK (k _ ?_ eu!)⟩));exact⟨_,NU _ eo (Obj.isFreed_of_fields (QF ed _)),(xY!).trans ec,by rw[QF ed];simp[rawInt]⟩
def xM{n:Nat}{xs:af!}{Q:q_}(hh:dc!)(g1:xT!)(g2:xT_)(g3:xs[n]?=none)
  (k:∀h' e,Heap.ExtBut jt s.heap h'->(∃o,h'.get? e=some o/\o.cls=.type "StopIteration")->E (.ref e) {s with heap:=h'}):wpAny r_ A xU! Q E s:=by
 show"!7";show"!Z";refine HI (LI (HI (RH eo ed d! ?_)));refine HI ?_;simp only[newExc,newTuple];refine HI (KO ?_ kv_);refine HI (m:=xZ!) (wpAny_of_eq (a:=dF!) xZ_ ?_);refine KO ?_ kv_;simp only[raiseNew];refine HI x0!
 first|rw[x0_]|rw[hh]
 refine HI x1!;exact k _ _ x2! pg!
def cG{h h':Heap}{n:Nat}(x:h.IsTupleIter aa tt n)(hs:Heap.ExtBut bb h h')(ne:aa≠bb):h'.IsTupleIter aa tt n:=let⟨ob,eo,r⟩:=x;⟨ob,hs _ _ ne eo,r⟩
def a9u{TI TO:x7!}{k1 k2:Nat}{xs ys:af!}{Q:q_}(D:kw!)
  (gz:kw_)(gI:kx!)(gO:kx_)
  (g1:ky!)(g2:ky_)(iw:hz!)(ja:hz_)(gx:x3!)(gy:x3_)
  (kk:∀h',IsZip h' z TI TO (rawInt o_)->IsPair h' TO x y->h'.IsTupleIter i1 l1 (k1+1)->h'.IsTupleIter i2 l2 (k2+1)->IsPair h' s.heap.objs.size x y->
   kz!->Q c6_ {s with heap:=h'}):
  wpAny r_ A x4! (λfin s'=>∃v,fin=.done (.ret v)/\Q v s') E s:=by
 show"!x";show"!C";refine HI x7_
 replace lu:IsZip Y z TI TO .ellipsis:=lu
 refine HI ?_;simp only[NV,QM,NC,PM];refine HI kA!;refine HI x8_;have uc:IsPair L TO p q:=bq.extBut _ _ D.TOi1 ya_;refine HI yc!;refine HI ya!
 replace ww:IsPair h3 TO x q:=ww
 refine HI (NR ac_);refine HI kA!;refine HI (a3o yc_ yd! gy λh4 ZK jo=>HK ?_);have VI:IsPair h4 TO x q:=jo.extBut _ _ D.TOi2 ww;refine HI (LV VI rfl ?_);refine HI (RD VI λh5 wx l8=>?_)
 replace wx:IsPair h5 TO x y:=wx
 refine HI (NR (HK ac_));refine HI (LV wx rfl ?_);refine HI (wpAny_newTuple ?_);have sz:kA_=o_:=by rw[l8.1,jo.1,dh.1,bq.1,hs1.1]
 have VJ:IsZip h5 z TI TO .ellipsis:=l8.extBut _ _ D.TOz.symm (jo.extBut _ _ D.i2z.symm yd_);have ZL:∀c ob,c≠z->c≠TO->c≠i1->c≠i2->s.heap.get? c=some ob->h5.get? c=some ob:=λc ob c1 c2 c3 c4 e=>l8.extBut _ _ c2 (jo.extBut _ _ c4 (dh.extBut _ _ c2 (bq.extBut _ _ c3 (hs1.extBut _ _ c1 e))));have ZM:h5.IsTupleIter i1 l1 (k1+1):=cG (cG (cG VH dh.extBut D.TOi1.symm) jo.extBut D.i12) l8.extBut D.TOi1.symm;have ZN:h5.IsTupleIter i2 l2 (k2+1):=cG ZK l8.extBut D.TOi2.symm;have VL:z<kA_:=IQ VJ;refine HI ?_;unfold Builtin.SmallTypes.ownedTupleHandOut;have ZO:IsZip (h5.push {cls:=.type "tuple",data:=.seq #[x,y]}) z TI TO .ellipsis:=HM _ VJ;refine HI (NM ZO d! λh7 zl VM=>?_)
 replace zl:IsZip h7 z TI TO (rawInt kA_):=zl
 refine NM zl d! λh8 wy VN=>?_
 replace wy:IsZip h8 z TI TO (rawInt kA_):=wy
 have up:∀c ob,c≠z->h5.get? c=some ob->h8.get? c=some ob:=λc ob c1 e=>VN.extBut _ _ c1 (VM.extBut _ _ c1 (HM _ e));have VO:IsPair h8 h5.objs.size x y:=VN.extBut _ _ (MV VL) (VM.extBut _ _ (MV VL) kB!);rw[sz]at wy VO;refine HK ph_;rw[sz];obtain⟨wz,ZP,r1⟩:=ZM;obtain⟨qg,ZQ,r2⟩:=ZN;exact kk h8 wy (up _ _ D.TOz wx) ⟨wz,up _ _ D.i1z ZP,r1⟩ ⟨qg,up _ _ D.i2z ZQ,r2⟩ VO λc ob c1 c2 c3 c4 e=>up c ob c1 (ZL c ob c1 c2 c3 c4 e)
def b5m{TI TO:x7!}{k1 k2:Nat}{xs ys:af!}{Q:Fin->Shared->Prop}(hh:dc!)(D:kw!)
  (gz:kw_)(gI:kx!)(gO:kx_)
  (g1:ky!)(g2:ky_)(iw:hz!)(ja:hz_)(ge:ye!)
  (kk:∀h' e,kz!->(∃ob,h'.get? e=some ob/\ob.cls=.type "StopIteration")->E (.ref e) {s with heap:=h'}):
  wpAny r_ A x4! Q E s:=by
 show"!x";show"!C";refine HI x7_
 replace lu:IsZip Y z TI TO .ellipsis:=lu
 refine HI ?_;simp only[NV,QM,NC,PM];refine HI kA!;cases gx:xs[k1]? with
 |none=>
  refine HI (xM hh x9_ x9! gx λL e bq he=>?_);obtain⟨oe,og,ud⟩:=he;have VP:IsZip L z TI TO .ellipsis:=bq _ _ D.i1z.symm lu;have zm:e≠z:=λx=>by subst x;rw[VP]at og;cases og;simp at ud
  refine NM VP d! λh3 _ dh=>kk h3 e (λc ob c1 _ c3 _ x=>dh.extBut _ _ c1 (bq _ _ c3 ye_)) ⟨oe,dh.extBut _ _ zm og,ud⟩
 |some x=>
  have gy:ys[k2]?=none:=by
   obtain h|h:=ge
   .rw[gx]at h;cases h
   .exact h
  refine HI x8_;have uc:IsPair L TO p q:=bq.extBut _ _ D.TOi1 ya_;refine HI yc!;refine HI ya!;refine HI (NR ac_);refine HI kA!;refine HI (xM hh yc_ yd! gy λh4 e jo he=>?_);obtain⟨oe,og,ud⟩:=he;have VQ:IsZip h4 z TI TO .ellipsis:=jo _ _ D.i2z.symm yd_;have zm:e≠z:=λx=>by subst x;rw[VQ]at og;cases og;simp at ud
  refine NM VQ d! λh5 _ l8=>kk h5 e (λc ob c1 c2 c3 c4 x=>l8.extBut _ _ c1 (jo _ _ c4 (dh.extBut _ _ c2 (bq.extBut _ _ c3 ye_)))) ⟨oe,l8.extBut _ _ zm og,ud⟩
def b0v{TI TO:x7!}{k1 k2:Nat}{xs ys:af!}{p:x5!}{Q:fA!}(D:kw!)
  (gz:kw_)(gI:kx!)(gO:kx_)
  (g1:ky!)(g2:ky_)(iw:hz!)(ja:hz_)(gx:x3!)(gy:x3_)
  (kk:∀h',IsZip h' z TI TO (rawInt o_)->IsPair h' TO x y->h'.IsTupleIter i1 l1 (k1+1)->h'.IsTupleIter i2 l2 (k2+1)->IsPair h' s.heap.objs.size x y->
   kz!->Q (some c6_) {s with heap:=h'}):
  wpAny r_ A (pyNext h5!) Q E s:=by
 have gT:s.TypeIs h5! "zip":=yg_;unfold pyNext;exact HI (PK (JZ (name:=kv!) gT RC (JP RC gT yh!
  (a9u D gz gI gO g1 g2 iw ja gx gy λh' a1 a2 a3 a4 a5 a6=>HK (kk h' a1 a2 a3 a4 a5 a6)) yh_)))
def zI{TI TO:x7!}{k1 k2:Nat}{xs ys:af!}{p:x5!}{Q:fA!}(hh:dc!)(D:kw!)
  (gz:kw_)(gI:kx!)(gO:kx_)
  (g1:ky!)(g2:ky_)(iw:hz!)(ja:hz_)(ge:ye!)
  (kk:∀h',kz!->Q none {s with heap:=h'}):wpAny r_ A (pyNext h5!) Q E s:=by
 have gT:s.TypeIs h5! "zip":=yg_;unfold pyNext;refine HI (PK (JZ (name:=kv!) gT RC (JP RC gT yh!
  (b5m hh D gz gI gO g1 g2 iw ja ge λh' e hk he=>?_) yh_)))
 obtain⟨ob,ho,hc⟩:=he;exact HI (wpAny_isInstance (T:=yi!) (b:=true) ⟨ob,ho,hc⟩ isSubtype_stop (HK (kk _ hk)))
abbrev DC(h:Heap)(l1:x7!):Heap:=h.push {cls:=.type "tuple_iterator",data:=.fields #[.ref l1,.int 0 0]}
abbrev DB(h:Heap)(l1 l2:x7!):Heap:=(DC h l1).push {cls:=.type "tuple_iterator",data:=.fields #[.ref l2,.int 0 0]}
abbrev CZ(h:Heap)(l1 l2:x7!):Heap:=(DB h l1 l2).push {cls:=.type "tuple",data:=.seq #[.ref cW_,.ref (DC h l1).objs.size]}
abbrev CY(h:Heap)(l1 l2:x7!):Heap:=(CZ h l1 l2).push {cls:=.type "tuple",data:=.seq #[.none,.none]}
abbrev BC(h:Heap)(l1 l2:x7!):Heap:=(CY h l1 l2).push {cls:=.type "zip",data:=.fields #[.none,.bool false,.bool false,.ref (DB h l1 l2).objs.size,.ref (CZ h l1 l2).objs.size]}
def b1m(l1 l2:x7!)(xs ys:af!):
  Meets (Builtin.«zip.__new__» ⟨[.type "zip",.ref l1,.ref l2],[]⟩) (λ_ R s=>s.heap.IsTuple l1 xs/\s.heap.IsTuple l2 ys/\R (.ok (.ret (.ref (pi!).objs.size))) {s with heap:=BC s.heap l1 l2}):=
 .of_wp λprog w A R s h=>by
  obtain⟨hp,g,d,tk,os⟩:=s;obtain⟨iw,ja,h⟩:=h;have hsub:=sub_zip;have ZR:Heap.IsTuple (Shared.heap hB!) l1 xs:=iw;have ZS:Heap.IsTuple (Shared.heap ⟨hp.push {cls:=.type "tuple_iterator",data:=.fields #[.ref l1,.int 0 0]},g,d,tk,os⟩) l2 ys:=let⟨ob,eo,r⟩:=ja;⟨ob,HM _ eo,r⟩
  wp_walk using wpAny_pyIter_tuple ZR,wpAny_pyIter_tuple ZS
  exact⟨_,rfl,h⟩
def c3j{xs ys:af!}{Q:q_}(iw:hz!)(ja:hz_)
  (kk:∀h',IsZip h' (o_+4) (o_+2) (o_+3) .none->IsPair h' (o_+2) c6_ (.ref ag_)->
   IsPair h' (o_+3) .none .none->h'.IsTupleIter s.heap.objs.size l1 0->h'.IsTupleIter ag_ l2 0->(∀c ob,s.heap.get? c=some ob->h'.get? c=some ob)->Q (.ref (o_+4)) {s with heap:=h'}):
  wpAny r_ A (call pj! [.ref l1,.ref l2]) Q E s:=by
 refine callType_new F.called_zip b_ (F.typeCall_zip_2 _ _) (F.newCall_zip_2 _ _) (λobj=>F.args_object_init_3 obj _ _) F.entry_zip_new (b1m l1 l2 xs ys) ⟨iw,ja,?_⟩;have z1:(yk_).objs.size=o_+1:=OE ..;have z2:(yl!).objs.size=o_+2:=by rw[OE,z1]
 have z3:(yl_).objs.size=o_+3:=by rw[OE,z2]
 have z4:(pi!).objs.size=o_+4:=by rw[OE,z3]
 have y5:(hC!).get? (pi!).objs.size=some _:=IP _ rfl;have y4:(hC!).get? (yl_).objs.size=some _:=HM _ kB!;have y3:(hC!).get? (yl!).objs.size=some _:=HM _ pj_;have y2:(hC!).get? (yk_).objs.size=some _:=HM _ (HM _ pj_);have y1:(hC!).get? o_=some _:=HM _ (HM _ (HM _ pj_));show _/\_;rw[z2,z3,z4]at y5;rw[z1,z2]at y3;rw[z3]at y4;rw[z1]at y2;rw[z4];exact⟨⟨_,y5,rfl⟩,kk _ y5 y3 y4 ⟨_,y1,rfl,rfl⟩ ⟨_,y2,rfl,rfl⟩ λc ob x=>HM _ (HM _ (HM _ (HM _ (HM _ x))))⟩
end
def DX(K:yS!)(a b:x7!):It:=
 ⟨λi H=>∃xs ys x y,Gf K H a xs/\Gf K H b ys/\xs[i]?=some x/\ys[i]?=some y,
   λi H v H'=>∃T,v=.ref T/\H T=none/\∀xs ys,Gf K H a xs->Gf K H b ys->∃x y,xs[i]?=some x/\ys[i]?=some y/\H'=upd H T (.tup [x,y]),
   λi H=>∃xs ys,Gf K H a xs/\Gf K H b ys/\(m_<=i\/ad!<=i)⟩
def b5q{w:xV!}{K:yS!}{jp:bK!}{n1:Nat}{tp:Pos}{a b TI TO:x7!}(D:ZipApart z TI TO i1 i2 a b):
  Tk P w K fA_ (DX K a b) [z,TI,TO,i1,i2] z (λi h=>IsZip h z TI TO .none/\IsPair h TI (.ref i1) (.ref i2)/\(∃p q,IsPair h TO p q)/\h.IsTupleIter i1 a i/\h.IsTupleIter i2 b i) where
 mem:=by simp
 obj:=λi h st c hc=>by
  obtain⟨s1,s2,⟨p,q,s3⟩,⟨o4,s4,c4,d4⟩,⟨o5,s5,c5,d5⟩⟩:=st;simp only[HN,JF,KY]at hc;obtain rfl|rfl|rfl|rfl|rfl:=hc
  .exact⟨_,s1,pk_⟩
  .exact⟨_,s2,pk_⟩
  .exact⟨_,s3,pk_⟩
  .exact⟨o4,s4,λv y=>by rw[d4]at y;cases y⟩
  .exact⟨o5,s5,λv y=>by rw[d5]at y;cases y⟩
 keep:=λi h h' st k=>by
  obtain⟨s1,s2,⟨p,q,s3⟩,⟨o4,s4,r4⟩,⟨o5,s5,r5⟩⟩:=st;exact⟨k z d! _ s1,k TI d! _ s2,⟨p,q,k TO d! _ s3⟩,⟨o4,k i1 d! _ s4,r4⟩,⟨o5,k i2 d! _ s5,r5⟩⟩
 item:=by
  intro X hP hw hK hc i h1 s Z H E I hf st hg;subst hP hw hK;obtain⟨xs,ys,x,y,qa,qb,J,hy⟩:=hg;obtain⟨s1,s2,⟨p,q,s3⟩,s4,s5⟩:=st;obtain⟨ia,ra,ta,za⟩:=I.tuple qa;obtain⟨ib,rb,tb,zb⟩:=I.tuple qb;obtain⟨u,hu,ru⟩:=ra.get J;obtain⟨v,hv,rv⟩:=rb.get hy;refine b0v D s1 s2 s3 s4 s5 ta tb (x:=u) (y:=v) sn! je! λh' a1 a2 a3 a4 a5 a6=>?_;refine⟨_,rfl,wpAny_letOwnedTupleGo_zip (s:=mD_) a1 λL b1 bq=>?_⟩;have qh:Heap.SameBut z h' L:=bq;have neT:∀c o,s.heap.get? c=some o->o_≠c:=λc o e=>MV cY!;have fz:=hf z d!;have fO:=hf TO d!;have f1:=hf i1 d!;have f2:=hf i2 d!;have I1:Inv X h1 Z H {s with heap:=L,toks:=s.toks}:=by
   have p5:∀(c:x7!),c∈fB!->H c=none:=λc hc=>by
    simp only[HN,JF,KY]at hc;obtain rfl|rfl|rfl|rfl:=hc
    .exact fz.1
    .exact fO.1
    .exact f1.1
    .exact f2.1
   have kp:∀c o,c∉fB!->s.heap.get? c=some o->L.get? c=some o:=λc o hc e=>by
    simp only[HN,JF,KY,ON]at hc;exact qh.extBut _ _ hc.1 (a6 c o hc.1 hc.2.1 hc.2.2.1 hc.2.2.2 e)
   refine I.step (g':=s.gens) (d':=s.drawn) (ch:=fB!) hC_ pl! pl_ ir_ pm! is! is_ pm_ it_ hD! I.bare
   .simp only[HN,JF,KY]at hc;obtain rfl|rfl|rfl|rfl:=hc
    .exact ym_
    .exact yn!
    .exact yn_
    .exact yo!
   .show"!b"
   .refine(pn!).stay pn_ po! λ_ _ e'=>e';have hn:=p5 d hm;obtain rfl|hd:=hd
    .rw[hn]at e;cases e
    .rw[hn]at hd;cases hd
  have ue:H o_=none:=I.hok.fresh y!;have eT:L.get? o_=some {cls:=.type "tuple",data:=.seq #[u,v]}:=qh.extBut _ _ (neT z _ s1) a5;have I2:Inv X h1 Z (upd H s.heap.objs.size (.tup [x,y])) {s with heap:=L,toks:=s.toks}:=by
   have ne:∀c o,H c=some o->c≠o_:=λc o e=>cN e ue;have ZT:∀p∈X.pn++h1,p.1≠o_:=λp hp=>JG sh_;refine Inv.step (s:={s with heap:=L,toks:=s.toks}) (g':=s.gens) (d':=s.drawn) (t':=s.toks) (h':=L) (ch:=[o_]) I1 hC_ yp_ yq! yq_ yr!
    (yr_) ys! ys_ n4_ hD! I1.bare
   .have e:c=o_:=by simpa using hc
    subst e;exact⟨.inr I.sz,MV I.lt,λx c h=>(λz=>by obtain⟨v,o,ho,_⟩:=I.cell x c h;rw[z]at ho;exact absurd in! dI!),ZT⟩
   .rw[n5!];exact n
   .by_cases hb:c=o_
    .show"!y";exact⟨by show 2<=sizeLine;rw[JV];decide,[u,v],.cons ru (.cons rv .nil),⟨_,eT,rfl,_,rfl⟩⟩
    .rw[bD hb]at e;exact(yt!).stay n5_ yt_ λd xs q=>by rw[pp_];exact q
  refine⟨de_,_,I2,rfl,⟨_,rfl,ue,λgg ZJ kg uf=>⟨x,y,?_,?_,rfl⟩⟩,⟨b1,qh.extBut _ _ D.TIz (a6 TI _ D.TIz D.TITO D.TIi1 D.TIi2 s2),⟨u,v,qh.extBut _ _ D.TOz a2⟩,cG a3 qh.extBut D.i1z,cG a4 qh.extBut D.i2z⟩,kC!⟩
  .rw[I.tuple_inj kg qa];exact J
  .rw[I.tuple_inj uf qb];exact hy
  .have ZU:=(hf c hc).1;have bv:∃o,s.heap.get? c=some o:=by
    obtain⟨o4,t4,_⟩:=s4;obtain⟨o5,t5,_⟩:=s5;simp only[HN,JF,KY]at hc;obtain rfl|rfl|rfl|rfl|rfl:=hc
    .exact⟨_,s1⟩
    .exact⟨_,s2⟩
    .exact⟨_,s3⟩
    .exact⟨_,t4⟩
    .exact⟨_,t5⟩
   obtain⟨o,ho⟩:=bv;rw[bD (HR (neT c o ho))];exact ZU
 done:=by
  intro X hP hw hK hc i h1 s Z H E I hf st hg;subst hP hw hK;obtain⟨xs,ys,qa,qb,ZV⟩:=hg;obtain⟨s1,s2,⟨p,q,s3⟩,s4,s5⟩:=st;obtain⟨ia,ra,ta,za⟩:=I.tuple qa;obtain⟨ib,rb,tb,zb⟩:=I.tuple qb;have l1:=ra.length;have l2:=rb.length;refine zI bL! D s1 s2 s3 s4 s5 ta tb (by
   obtain h|h:=ZV
   .left;simp;omega
   .right;simp;omega) λL a6=>j_
  have fz:=hf z d!;have fO:=hf TO d!;have f1:=hf i1 d!;have f2:=hf i2 d!;have p5:∀(c:x7!),c∈fB!->H c=none:=λc hc=>by
   simp only[HN,JF,KY]at hc;obtain rfl|rfl|rfl|rfl:=hc
   .exact fz.1
   .exact fO.1
   .exact f1.1
   .exact f2.1
  have kp:∀c o,c∉fB!->s.heap.get? c=some o->L.get? c=some o:=λc o hc e=>by
   simp only[HN,JF,KY,ON]at hc;exact a6 c o hc.1 hc.2.1 hc.2.2.1 hc.2.2.2 e
  refine I.step (g':=s.gens) (d':=s.drawn) (t':=s.toks) (ch:=fB!) hC_ pl! pl_ ir_ pm! is! is_ pm_ it_ hD! I.bare
  .simp only[HN,JF,KY]at hc;obtain rfl|rfl|rfl|rfl:=hc
   .exact ym_
   .exact yn!
   .exact yn_
   .exact yo!
  .show"!b"
  .refine(pn!).stay pn_ po! λ_ _ e'=>e';have hn:=p5 d hm;obtain rfl|hd:=hd
   .rw[hn]at e;cases e
   .rw[hn]at hd;cases hd
 self:=λA i s Q E st h=>wpAny_pyIter_zip st.1 h
section
variable{X:Cx}{own:List Nat}{e a b c o i tg:Expr}{es jp:List Expr}{pos p2 p tp:Pos}{f fa fb fc fe:Ae->Option D}{n1:Nat}
def c4v{ta:TA}(hg:Gl X "zip")(hm:yu_)(hv:yv!)(ha:PA X aq! ta)(hs:yv_:=by rfl)(a7:yw!:=by rfl):
  PI X fA_ yw_ (λZ H R=>ta Z H λvs H1=>∃x y xs ys,vs=[.ref x,.ref y]/\Gf X.K H1 x xs/\Gf X.K H1 y ys/\R (DX X.K x y) H1):=by
 intro h1 s Z H R I h;refine Call_ (kU I hg hm hv (LM mK! hs a7));obtain⟨x,y,xs,ys,rfl,qx,qy,q⟩:=q1;obtain⟨u,u',rfl,ru,av⟩:=b2r r1;cases ru;cases av;obtain⟨ia,ra,VR,za⟩:=I1.tuple qx;obtain⟨ib,rb,VS,zb⟩:=I1.tuple qy;have lx:x<D!:=by obtain⟨ob,eo,_⟩:=VR;exact IQ eo
 have ly:y<D!:=by obtain⟨ob,eo,_⟩:=VS;exact IQ eo
 refine c3j VR VS λh' a1 a2 a3 a4 a5 a6=>?_;refine wpAny_pyIter_zip a1 ?_;have I2:Inv X h1 Z H1 {s1 with heap:=h',toks:=s1.toks}:=I1.kept (t':=s1.toks) a6;have D:ZipApart (D!+4) (D!+2) (D!+3) s1.heap.objs.size (D!+1) x y:=by
  constructor<;>(intro z;have z':@Eq Nat _ _:=z;have l1:@LT.lt Nat _ x _:=lx;have l2:@LT.lt Nat _ y _:=ly;omega)
 refine⟨_,_,_,DX X.K x y,H1,rfl,I2,b5q D,⟨a1,a2,⟨_,_,a3⟩,a4,a5⟩,kC!,q⟩;have oi:D!<=c:=by
  simp only[HN,JF,KY]at hc;obtain rfl|rfl|rfl|rfl|rfl:=hc<;>omega
 exact I1.fpOk oi (I1.hok.fresh oi)
def Ld:List D->List D->List D
 |x::xs,y::ys=>.tup [x,y]::Ld xs ys
 |_,_=>[]
def AQ(fa fb:e!):Ae->Option aR_:=λρ=>(fp_).bind λx=>(jW_).bind λy=>match x,y with|.tup xs,.tup ys=>some kC_|_,_=>none
def a5x:∀(xs ys:c!) (n:Nat) (d:D),kC_[n]?=some d->∃x y,xs[n]?=some x/\ys[n]?=some y/\d=.tup [x,y]
 |[],_,n,d,h=>by simp[Ld]at h
 |_::_,[],n,d,h=>by simp[Ld]at h
 |x::xs,y::ys,0,d,h=>by
  simp[Ld]at h;exact⟨x,y,rfl,rfl,h.symm⟩
 |x::xs,y::ys,n+1,d,h=>by
  obtain⟨u,v,Y,L,h3⟩:=a5x xs ys n d (by simpa[Ld]using h);exact⟨u,v,ig!,by simpa using L,h3⟩
def a5w:∀(xs ys:c!),m_<=(kC_).length\/ad!<=(kC_).length
 |[],ys=>.inl cj_
 |_::_,[]=>.inr cj_
 |x::xs,y::ys=>by
  obtain h|h:=a5w xs ys
  .left;simp[Ld];exact h
  .right;simp[Ld];exact h
def c5t{K:yS!}{G1:Hp}{es:c!}(qa:Gf K G1 x vs)(qb:Gf K G1 y ws)(ra:An K G1 ds vs)(rb:An K G1 es ws):Zf K (DX K x y) (Ld ds es) G1:=by
 intro n G' H' s1 s2;have kg:Gf K H' x vs:=cD s2 (cD s1 qa);have uf:Gf K H' y ws:=cD s2 (cD s1 qb);refine⟨eq!,λhn=>⟨vs,ws,kg,uf,?_⟩⟩
 .obtain⟨u,v,Y,L,rfl⟩:=a5x ds es n d hd;obtain⟨v1,g1,r1⟩:=iT ra Y;obtain⟨v2,g2,r2⟩:=iT rb L;refine⟨⟨vs,ws,v1,v2,kg,uf,g1,g2⟩,λx' ie hy=>?_⟩;obtain⟨T,rfl,hT,hh⟩:=hy;obtain⟨x1,y1,e1,e2,rfl⟩:=hh vs ws kg uf;rw[g1]at e1;rw[g2]at e2;cases e1;cases e2;exact⟨_,Co.laid s2 hT,fZ (s2.free hT) (An.cons (r1.mono s1) (An.cons (r2.mono s1) An.nil))⟩
 .rw[hn,<-aL ra,<-aL rb];exact a5w ds es
def d0n(hg:Gl X "zip")(hm:yu_)(hv:yv!)(ha:aa!)(hb:cG_)(hs:yv_:=by rfl)
  (bq:starEach [b] X.env=iM_::starEach [] X.env:=by rfl)(a7:yw!:=by rfl):DI X own fA_ yw_ (AQ fa fb):=
 a9a (c4v hg hm hv (dZ ha.ok (dZ hb.ok gQ bq) hs) hs a7) λZ G H R ρ ds er e k=>by
  obtain⟨x,e1,e⟩:=HJ.mp e;obtain⟨y,e2,e⟩:=HJ.mp e;cases x with
  |tup xs=>
   cases y with
   |tup ys=>
    cases e;refine yx!;obtain⟨p,vs,rfl,q,rr⟩:=bS he!;obtain⟨p',ws,rfl,q',b7⟩:=bS r2;exact⟨p,p',vs,ws,rfl,cD s2.sub q,cD s2.sub q',k _ G2 H2 dp! (c5t q q' rr b7)⟩
   |_=>cases e
  |_=>cases e
end
def Eh:D->D->Option D:=Dy Ui λi j=>.int (i*j)
def sT{K:yS!}:Im K mR! Eh:=c9k
def Bz:D->D->Option D:=Dy wW! λi j=>.int (i%j)
def eQ{K:yS!}:Im K mS_ Bz:=c9l
def Ck:D->D->Option D:=Dy wW_ λi j=>.int (i / j)
def nV{K:yS!}:Im K mS! Ck:=c5i
def Gk:D->D->Option D:=Dy wX! λi j=>.int mU!
def c9g{K:yS!}:Im K mT_ Gk:=c9j
def Kd:D->D->Option D:=Ch λi j=>.bl mV!
def b4c{K:yS!}:Im K mV_ Kd:=d2u
def Mo:D->D->Option D:=Ch λi j=>.bl mX_
def c7n{K:yS!}:Im K mY! Mo:=d2w
def Oj:D->D->Option D:=Ch λi j=>.bl mY_
def d2t{K:yS!}:Im K mZ! Oj:=d2x
section
variable{X:Cx}{own:List Nat}{pos p2:Pos}
def mJ:Gx X mW! yx_:=d2p.or b6o
def Kq:D->D->Option D
 |.int i,.int j=>some (.bl mW_)
 |.str x,.str y=>some (.bl (Sc x y))
 |_,_=>none
def mK{K:yS!}:Im K yx_ Kq:=by
 show"!0";unfold Kq at e;show"!6"
 .show"!^";exact .inl pq!
 .cases cI rx;cases cI ry;cases e;exact .inr pq!
 .cases e
def Lz:D->D->Option D
 |.int i,.int j=>some (.bl (!(i==j)))
 |.str x,.str y=>some (.bl (!(x==y)))
 |_,_=>none
def a0q{K:yS!}:Im K FY Lz:=by
 show"!0";unfold Lz at e;show"!6"
 .show"!^";refine j_;rw[b4z];show"!t"
 .cases cI rx;cases cI ry;cases e;refine j_;rw[b4y];show"!t"
 .cases e
def iA{x:Str}{i:Int}(hm:∃t,X.mg x=some dE_)(hg:Y_)(hd:F_:=by decide):DE X own ct_ (fC bx!):=by obtain⟨t,ht⟩:=hm;exact c6o hg ht hd
end
def bL{X:Cx}{scope sc:Scope}(h:X.env.scope=sc)(hd:∀y∈ca!,y.2=.free->(sc.names.lookup y.1=some .cell\/sc.names.lookup y.1=some .free)):
  ∀y∈ca!,y.2=.free->v7_:=λy hy hf=>by
 unfold Env.kindOf;rw[h];exact hd y hy hf
section
variable{X:Cx}{own:List Nat}{a b c:Expr}{pos p2:Pos}{fa fb fc:Ae->Option D}
def c2n{op fm:CmpOp}{r r':R2}{g g':bd!}(ho:b5_)(hg:ek!)(fh:iU!)(ub:Im X.K r' g')(ha:aa!)(hb:cG_)(hc:DE X own c fc)
  (hm:iU_:=by with_unfolding_all rfl):DT X own iV! (fT xD!):=
 yT (b9h ho fh ha.ok hb.ok hc.ok hm) λZ G H Q ρ d er e k=>by
  have e:=lE e;obtain⟨x,e1,e⟩:=HJ.mp e;obtain⟨y,e2,e⟩:=HJ.mp e;obtain⟨z,e3,e⟩:=HJ.mp e;refine xD_;have nz:=s1.trans he_;cases z with
  |bl bb=>
   cases dA r3;refine xE!;cases bb with
   |true=>
    obtain⟨u,e4,e⟩:=HJ.mp e;refine nB ⟨G3,ρ,u,er.grow nz,e4,λq G4 H4 s4 r4=>ub s4.sub xE_ r4 e λv G5 H5 s5 r5=>?_⟩;cases dA r5;exact⟨d,rfl,k G5 H5 xF!⟩
   |false=>
    cases e;exact nE ⟨false,rfl,k G3 H3 nz⟩
  |_=>cases e
def b7m{x:Str}{bp:aV!}(hd:Us X x bp)(hg:Y_)(ha:aa!)(hm:behindInMarks .NotIn dq!=false:=by rfl)(bg:F_:=by decide):DT X own (.Compare a [.NotIn] [cI!] pos) (fT (Yx bp true fa)):=by
 show"#F";refine yT (t:=λZ H Q=>tD X.K own fa Z H λv H1=>∃y,v=.str y/\Q (!(Nz kvs et!).isSome) H1) xG_ λZ G H Q ρ d er e k=>?_
 .refine QY (dM xH! λv s1 ⟨y,H1,I1,r1,z,hz,q1⟩=>kS I1 hg j6 ?_ bg) hm;subst hz;refine wpAny_notIn_of (knd:=xI!) (k:=pb!) xH_ VF (zh _ I1.kIn).mapOf ?_;rw[<-(zi.val pa!).isSome_eq];exact JN ⟨H1,I1.tok _,q1⟩
 .have e:=lE e;obtain⟨x,e1,e⟩:=HJ.mp e;cases x with
  |str y=>
   cases e;refine fs_;cases cI r1;refine⟨y,rfl,?_⟩;have hb:(Nz kvs et!).isSome=(o9_).isSome:=by
    cases ht:bp.lookup y with
    |none=>rw[(hn y).mpr ht];rfl
    |some d=>obtain⟨v,hv,_⟩:=hs y d ht;rw[hv];rfl
   rw[hb];exact k G1 H1 s1
  |_=>cases e
end
def eG:bootBuiltins "len"=some s9!:=by decide+kernel
def d1e:bootBuiltins "abs"=some s3_:=by decide+kernel
def d1b:bootBuiltins "ord"=some s5_:=by decide+kernel
def b2l:bootBuiltins "all"=some w8!:=by decide+kernel
def dC:bootBuiltins "isinstance"=some oM!:=by decide+kernel
def d1d:bootBuiltins "int"=some bU!:=by decide+kernel
def c6x:bootBuiltins "bool"=some bU_:=by decide+kernel
def b2k:bootBuiltins "str"=some bV!:=by decide+kernel
def rX:bootBuiltins "tuple"=some bV_:=by decide+kernel
def a5q:bootBuiltins "list"=some d6_:=by decide+kernel
def d1a:bootBuiltins "zip"=some pj!:=by decide+kernel
def Ff(K:yS!)(mg:z!)(x:Str)(st:Stmt)(ps:q!):Prop:=∃ae fd,Xz K x x st ae fd/\Fc K fd ps []/\mg x=some bT_
def Ci(N:q!)(n:Nat)(q:aU!)(ds:c!):Option D:=if h!=n then(match q hs_ with|some (.rt d)=>some d|some (.nx _)=>some .non|none=>none)else none
def eL{K:yS!}{mg:z!}{st:Stmt}{ps:q!}{k:Nat}{hx:l!}{q:aU!}(h:yA_)(S:d9_)
  (hb:∀{ae:x7!} {ag:x5!} {A:x6!} {outer:ax!} {s:yR!} {H:Hp} {E:XK},Al k ps!->Ya (ps_).nox [] hx bQ_ q):
  Ok P w K mg base V! x ps (Ci N ps.length q):=by
 obtain⟨ae,fd,F,B,m⟩:=h;refine⟨ae,fd,d0p F S (λag A outer s H E hr=>hb hr) (λds d hl e=>?_),B,m,F.kp⟩;unfold Ci at e;rw[HY hl]at e;show"!6"
 .cases e;left;assumption
 .cases e;right;exact⟨_,by assumption,rfl⟩
 .cases e
def CJ:Const->Option D
 |.int i=>some bx!
 |.str i=>some jQ_
 |.bool i=>some (.bl i)
 |.none=>some .non
 |_=>none
mutual
noncomputable def Vg:Nat->Expr->Option D
 |0,_=>none
 |n+1,e=>match e with
  |.Constant c _ _=>CJ c
  |.Tuple es _ _=>(pt!).bind λds=>if h!<=1000 then some dm! else none
  |.List es _=>(pt!).bind λds=>if h!<=1000 then some cd! else none
  |_=>none
noncomputable def Vf:Nat->List Expr->Option aR_
 |0,_=>none
 |n+1,[]=>some []
 |n+1,e::es=>(Vg n e).bind λd=>(pt!).bind λds=>some ee_
end
section
variable{X:Cx}{own:List Nat}
def c1i{n:Nat}(h:Vg n e=some d):starEach aO! X.env=e6!::starEach es X.env:=by
 cases n with
 |zero=>unfold Vg at h;cases h
 |succ n=>
  cases e<;>first|rfl|(simp[Vg]at h;done)
mutual
theorem fE:∀{n:Nat} {e:Expr} {d:D},Vg n e=some d->DE X own e (fC d)
 |0,e,d,h=>by unfold Vg at h;cases h
 |n+1,e,d,h=>by
  unfold Vg at h;split at h
  .unfold CJ at h;split at h
   .cases h;exact aD
   .cases h;exact aS
   .cases h;exact eE
   .cases h;exact dJ
   .cases h
  .obtain⟨ds,e1,e2⟩:=HJ.mp h;split at e2
   .rename_i hl;cases e2;refine eX (cO (b2d e1)).ok λZ G H Q ρ d er e k=>?_;show"#H"
   .cases e2
  .obtain⟨ds,e1,e2⟩:=HJ.mp h;split at e2
   .rename_i hl;cases e2;refine eX (lI (b2d e1)).ok λZ G H Q ρ d er e k=>?_;show"#H"
   .cases e2
  .cases h
theorem b2d:∀{n:Nat} {es:bK!} {ds:c!},Vf n es=some ds->DA X own es (λ_=>some ds)
 |0,e,d,h=>by unfold Vf at h;cases h
 |n+1,[],d,h=>by
  unfold Vf at h;cases h;exact aJ
 |n+1,e::es,d,h=>by
  unfold Vf at h;obtain⟨d1,e1,h⟩:=HJ.mp h;obtain⟨ds,e2,h⟩:=HJ.mp h;cases h;exact c2y (aE (fE e1) (b2d e2) (c1i e1)).ok λZ G H Q ρ d er e k=>⟨G,ρ,_,er,e,k⟩
end
end
section
variable{P:yp!}{w:xV!}{K:yS!}{mg:Str->Option Value}{h:Heap}
def aU{st:Stmt}{ps:q!}{od an:a7_}{eh:b6_}{kV:x5!}(X:fB_)(G:fC!)
  (a:yF_)(l:yG_)
  (c:yH!)(k:gZ_)
  (b:yH_):Ff K mg x st ps:=
 ⟨f,_,kF_,pt_,pu!⟩
def AY(K:yS!)(mg:z!)(x:Str)(st:Stmt)(ps:q!):Prop:=∃ae fd,Xz K x x st ae fd/\(∀us:List Value,aw!=V_->bindArgs fd db_=pure da_)/\mg x=some bT_
def c6k{st:Stmt}{ps:q!}{od an:a7_}{eh:b6_}{kV:x5!}(X:fB_)(G:fC!)
  (a:yF_)(l:yG_)
  (c:yH!)(k:gZ_)
  (b:yH_):AY K mg x st ps:=
 ⟨f,_,kF_,b _ _ _ _ _ _,pu!⟩
def rJ{i:Int}(X:fB_)(G:fC!)(a:W.nsIn K mainGlobals x=some (some (.int i tk))):∃tk,mg x=some (.int i tk):=⟨tk,pu!⟩
def fH(X:fB_)(G:fC!)(e:W.nsIn K mainGlobals x=some (some ag!)):mg x=some ag!:=W.mg_of X G e
def dW(X:fB_)(G:fC!)(e:W.nsIn K mainGlobals x=some none):mg x=none:=W.mg_none_of X G e
def a1h{K:yS!}{H:Hp}:∀(ns:w_),An K H pv! b7_
 |[]=>An.nil
 |n::r=>An.cons Ax.int (a1h r)
abbrev Uo:=Str×Tok×Addr
def AD(w:xV!)(r:Uo):DictEntry:=⟨PyData.keyHash w.params r.1,.str r.1 r.2.1,.ref r.2.2⟩
def Vj(K:yS!):List Uo->List ci!->Prop
 |[],[]=>True
 |r::rs,t::ts=>r.1=t.1/\(∀H,Ax K H t.2 (V.ref r.2.2))/\Vj K rs ts
 |_,_=>False
abbrev Vw(rows:fC_):List (L2.Key×V):=rows.map λr=>(Sum.inr r.1,V.ref r.2.2)
abbrev Tu(rows:fC_):List xG!:=rows.map λr=>(Sum.inr r.1,Value.ref r.2.2)
def wY{P:yp!}:∀(rows:fC_),Pairs bu! yJ! pv_
 |[]=>.nil
 |r::rs=>.cons (mR P w r.1 r.2.1) rfl (wY rs)
def sL:∀{rows:fC_} {bp:aV!},Vj K rows bp->(Nz pw! et!=none↔bp.lookup y=none)/\∀d,bp.lookup y=some d->∃v,Nz pw! et!=some v/\∀H,Ax K H d v
 |[],[],_=>⟨⟨e4_,e4_⟩,λd e=>by cases e⟩
 |[],t::ts,h=>h.elim
 |r::rs,[],h=>h.elim
 |r::rs,(x,d0)::ts,h=>by
  obtain⟨Y,L,h3⟩:=h;have ih:=sL (y:=y) h3;have kh:r.1=x:=Y;unfold Nz at ih ⊢;simp only[HV,LQ,JR];by_cases e:y=x
  .subst e;have:decide yK_=true:=by simp[kh]
   simp only[this,LF];refine⟨⟨yL!,yL!⟩,λd z=>?_⟩;cases z;exact⟨_,rfl,L⟩
  .have e1:decide yK_=false:=by
    rw[kh];exact IF λz=>e (yL_).symm
   have e2:(y==x)=false:=by simp[e]
   simp only[e1,e2];exact ih
def b4n:∀(rows:fC_),KV pw! pv_
 |[]=>.nil
 |r::rs=>.cons bi_ (b4n rs)
def c2e{X:Cx}{x:Str}{ad:x7!}{rows:fC_}{bp:aV!}{ep:Nat}(hw:X.w=w)(hK:X.K=K)(j6:X.mg=mg)(hm:mg x=some kp_)(hs:o9!=false)(hl:K.lookup ad=some {cls:=.type "dict",data:=.dict (yJ!).toArray ep})
  (nd:fD!)(ht:Vj K rows bp):Us X x bp:=by
 subst hw hK j6;refine⟨ad,Vw rows,Tu rows,hm,hs,λh hK=>⟨_,_,_,hK _ _ hl,yM!,rfl,?_,?_,?_⟩,b4n rows,λy=>(sL ht).1,λy d=>(sL ht).2 d⟩
 .intro e he;have cp:e∈rows.map (AD X.w):=by simpa using he
  obtain⟨r,hr,rfl⟩:=IH.mp cp;exact⟨Sum.inr r.1,mR _ _ r.1 r.2.1,rfl⟩
 .simpa using wY (w:=X.w) (P:=X.prog) rows
 .have e:(pv_).map c_=(kG_).map (Sum.inr:Str->L2.Key):=by simp[Tu]
  rw[e];exact List.Pairwise.map _ (λa b lm z=>lm yL_) nd
def a6t{H:Hp}:∀(fs:aw_),An K H (fs.map D.fn) yN!
 |[]=>An.nil
 |n::r=>An.cons (by unfold Ax;rfl) (a6t r)
def zZ:∀(fs:aw_),Bc yN! yN_
 |[]=>.nil
 |n::r=>.cons rfl (zZ r)
def gZ{fs:aw_}{od:a7_}{n:Nat}{sl:b6_}(l:K.lookup a=some ⟨cM_,od,.seq (yN_).toArray n,sl⟩)(hz:bu_<=1000)(H:Hp):Ax K H (.tup (fs.map D.fn)) fl_:=
 Ax.tup (.inr ⟨_,_,n,l,rfl,rfl,by simpa using gJ hz,by simpa using zZ fs⟩) (a6t fs)
end
abbrev MK:=Option (Sum L2.Key (List L2.Key))
abbrev CH:Int:=0xFCA86420
section
variable{P:yp!}{w:xV!}{A:x6!}{E:Value->Shared->Prop}{s:yR!}
variable (P w)in
def Ko(h:Heap):MK->Value->Prop
 |none,v=>v=.none
 |some (.inl k),v=>Rm k v=true
 |some (.inr ks),v=>∃a,v=.ref a/\IsTupleKey bu! h ks a
variable (P w)in
nonrec def mkHash:MK->Int
 |none=>CH
 |some (.inl k)=>CK w k
 |some (.inr ks)=>tupleKeyHash bu! ks
def a7s(J:Ko P w h x v)(hy:Ko P w h y v):x=y:=by
 obtain _|x|x:=x<;>obtain _|y|y:=y
 .rfl
 .cases yQ!;obtain⟨i,t,_,e⟩|⟨i,t,_,e⟩:=bQ hy<;>exact nomatch e
 .cases yQ!;obtain⟨a,e,_⟩:=hy;exact nomatch e
 .cases hE_;obtain⟨i,t,_,e⟩|⟨i,t,_,e⟩:=bQ J<;>exact nomatch e
 .rw[(bu!).inj v x y J hy]
 .obtain⟨a,rfl,_⟩:=hy;obtain⟨i,t,_,e⟩|⟨i,t,_,e⟩:=bQ J<;>exact nomatch e
 .cases hE_;obtain⟨a,e,_⟩:=J;exact nomatch e
 .obtain⟨a,rfl,_⟩:=J;obtain⟨i,t,_,e⟩|⟨i,t,_,e⟩:=bQ hy<;>exact nomatch e
 .obtain⟨a,rfl,J⟩:=J;obtain⟨b,e,hy⟩:=hy;cases e;rw[J.inj hy]
def kH{h:Heap}{ks:pz_}(x:IsTupleKey bu! h ks a):∃its,h.IsTuple a its:=by obtain⟨o,its,n,Y,L,h3,_⟩:=x;exact⟨its,o,Y,L,n,h3⟩
def c0y{Q:ev_}(hu:at!)(J:pA!)(hy:Ko P w s.heap y v)(h:Q (decide (x=y)) s):wpAny G_ A (eqBool u v) Q E s:=by
 obtain _|x|x:=x<;>obtain _|y|y:=y
 .cases hF!;cases hE_;rw[fD_]at h;exact SeqAt.EqAt.same _ _ _ _ _ h
 .cases hF!;rw[fE!]at h;obtain⟨i,t,rfl,rfl⟩|⟨i,t,rfl,rfl⟩:=bQ hy
  .exact SeqAt.EqAt.none_int i t _ _ _ _ h
  .exact SeqAt.EqAt.none_str i t _ _ _ _ h
 .cases hF!;rw[fE!]at h;obtain⟨a,rfl,q⟩:=hy;obtain⟨its,q⟩:=kH q;exact SeqAt.EqAt.none_tuple q hu _ _ _ _ h
 .cases hE_;rw[fE!]at h;obtain⟨i,t,rfl,rfl⟩|⟨i,t,rfl,rfl⟩:=bQ J
  .exact SeqAt.EqAt.int_none i t _ _ _ _ h
  .exact SeqAt.EqAt.str_none i t _ _ _ _ h
 .refine(bu!).eqBool J hy ?_;by_cases e:x=y
  .subst e;rw[fD_]at h ⊢;exact h
  .rw[IF cV_]at h;rw[IF e];exact h
 .rw[fE!]at h;obtain⟨a,rfl,q⟩:=hy;obtain⟨its,q⟩:=kH q;obtain⟨i,t,rfl,rfl⟩|⟨i,t,rfl,rfl⟩:=bQ J
  .exact SeqAt.EqAt.int_tuple i t q hu _ _ _ _ h
  .exact SeqAt.EqAt.str_tuple i t q hu _ _ _ _ h
 .cases hE_;rw[fE!]at h;show"#5";obtain⟨its,q⟩:=kH q;exact SeqAt.EqAt.tuple_none q hu _ _ _ _ h
 .rw[fE!]at h;obtain⟨a,rfl,q⟩:=J;obtain⟨its,q⟩:=kH q;obtain⟨i,t,rfl,rfl⟩|⟨i,t,rfl,rfl⟩:=bQ hy
  .exact SeqAt.EqAt.tuple_int i t q hu _ _ _ _ h
  .exact SeqAt.EqAt.tuple_str i t q hu _ _ _ _ h
 .show"#5";obtain⟨b,rfl,q2⟩:=hy;refine wpAny_eqBool_tuple hu q q2 ?_;by_cases e:x=y
  .subst e;rw[fD_]at h ⊢;exact h
  .rw[IF cV_]at h;rw[IF e];exact h
def a7r{Q:ev_}(J:pA!)(h:Q true s):wpAny G_ A (eqIsQuiet 8 u) Q E s:=by
 obtain _|x|x:=x
 .cases hF!;rw[eqIsQuiet_byValue _ rfl];exact HK h
 .rw[eqIsQuiet_byValue _ ((bu!).byValue x u J)];exact HK h
 .show"#5";exact wpAny_eqIsQuiet_tuple q h
def vY{Q:Int->Shared->Prop}(hu:at!)(J:pA!)(h:∀tk,Q (mkHash P w x) {s with toks:=tk}):wpAny G_ A (pyHash u) Q E s:=by
 obtain _|x|x:=x
 .cases hF!;unfold pyHash;have hv:[dF!].any Value.onHeap=false:=rfl;refine HI ?_;rw[cRoomFor,HP (by rw[hv];exact IN)];refine HK ?_;have hT:s.TypeIs .none "NoneType":=rfl;refine HI yS_;rw[HP (show¬(some (Value.builtin "NoneType.__hash__")==some Value.none)=true by rw[beq_builtin_none];exact IN)];refine HI yS_;show wpAny _ _ (callSpecialIfBoundUnlessNone? Value.none (Str.ofString "__hash__") _>>=_) _ _ _;refine HI (wpAny_callSpecialIfBoundUnlessNone?_slot hT NN (JP NN hT PySem.F.entry_NoneType_hash ?_ (PySem.F.args_NoneType_hash_1 _)));refine wpAny_ret_mkInt ?_;exact HK (h _)
 .exact(bu!).pyHash J (h _)
 .show"#5";exact wpAny_pyHash_tuple hu q (h _)
end
def Mx(ks:be!)(k:MK):Option Nat:=ks.findIdx? λx=>decide (x=k)
def Hs(ks:be!)(k:MK)(i:Nat):Bool:=decide (ks[i]?=some k)
def rB{ks:be!}{j:Nat}(h:yT!):ks[j]?=some k/\∀i,i<j->ks[i]?≠some k:=by obtain⟨Y,L,h3⟩:=List.findIdx?_eq_some_iff_getElem.mp h;refine⟨by rw[II Y];exact congrArg some (KM L),λi hi e=>?_⟩;have:=h3 i hi;obtain⟨q1,q2⟩:=IL.mp e;rw[q2]at this;simp at this
def a8g{ks:be!}(h:Mx ks k=none)(i:Nat):ks[i]?≠some k:=λe=>by
 have:=List.findIdx?_eq_none_iff.mp h k (NP e);simp at this
def b1y(ks:be!)(k:MK):(List.range kH_).find? du_=Mx ks k:=by
 cases h:Mx ks k with
 |none=>
  rw[List.find?_eq_none];intro i hi z;exact a8g h i (KM z)
 |some j=>
  obtain⟨Y,L⟩:=rB h;rw[List.find?_range_eq_some];refine⟨by unfold Hs;exact IV Y,NT.mpr (kf!).1,fE_⟩;unfold Hs;rw[IF (L i hi)];rfl
section
variable{P:yp!}{w:xV!}{A:x6!}{E:Value->Shared->Prop}{s:yR!}
variable (P w)in
structure Oy(h:Heap)(es:bP!)(ks:be!):Prop where
 len:es.size=kH_
 at_:∀(i:Nat) (e:DictEntry) (k:MK),es[i]?=some e->ks[i]?=some k->Ko P w h k e.key/\e.hash=mkHash P w k
 nd:hF_
def Oy.get{es:bP!}{ks:be!}(x:kI!){i:Nat}{e:DictEntry}(q:es[i]?=some e):∃k,ks[i]?=some k/\Ko P w h k e.key/\e.hash=mkHash P w k:=by
 have hl:i<kH_:=by rw[<-x.len];exact(OZ.mp q).1
 exact⟨ks[i],II hl,x.at_ i e _ q (II hl)⟩
def Oy.one{es:bP!}{ks:be!}(x:kI!){i j:Nat}(Y:Hs ks k i=true)(L:Hs ks k j=true):i=j:=by have e1:=KM Y;have e2:=KM L;exact(List.getElem?_inj (IL.mp e1).1 x.nd).mp uI_
abbrev plc(es:bP!)(h:Int):List Nat:=placesWithHash es.size (λi=>es[i]?.map (·.hash)) h
def a8x{es:bP!}{ks:be!}(x:kI!)(k:MK):(kI_).find? du_=Mx ks k:=by
 unfold plc placesWithHash;rw[List.find?_filter,<-b1y,x.len];congr 1;funext i;cases hp:Hs ks k i with
 |false=>simp
 |true=>
  have e1:=KM hp;have hl:i<es.size:=by rw[x.len];exact(IL.mp e1).1
  obtain⟨k',q1,q2,q3⟩:=x.get (JH hl);rw[e1]at q1;cases q1;simp[JH hl,q3]
def b9m{es:bP!}{h:Int}{i:Nat}(hi:i∈plc es h):i<es.size:=by have:=(KQ.mp hi).1;simpa using this
def c8t{es:bP!}{h:Int}:(plc es h).Nodup:=List.nodup_range.sublist OU
def a9x{o:Obj}{es:bP!}{ep:Nat}{ks:be!}{Q:yU!}(hu:at!)(x:yU_)(hk:ew!)
  (ho:yV!)(hd:yV_)(h:Q hG! s):wpAny G_ A yW! Q E s:=by
 show"!m";generalize plc es dv!=az at hf hl ⊢;rw[<-hf]at h;unfold dictWalkPlain;refine HI (QQ _ (λrest b s'=>s'=s/\b=fF!/\rest.find? du_=az.find? du_/\∀i∈rest,i<es.size) _ ?_ ?_ _ _ ⟨rfl,rfl,rfl,hl⟩)
 .rintro i rest b s' ⟨rfl,rfl,Y,L⟩;have am:=L i HQ;have he:es[i]?=some es[i]:=JH am;obtain⟨k',q1,q2,q3⟩:=x.get he;have no:k'≠k->rest.find? du_=az.find? du_:=λb8=>by
   rw[<-Y,LQ];have:Hs ks k i=false:=by unfold Hs;rw[q1];exact IF yW_
   rw[this]
  show"#,";rw[he];show"#.";split
  .refine HI pB_;rw[W_];by_cases l9:k'=k
   .subst l9;rw[fD_];have hi:Hs ks k' i=true:=by unfold Hs;exact IV q1
    have:az.find? (Hs ks k')=some i:=by rw[<-Y,LQ,hi]
    rw[this]at h;exact HI (LI (HK (HK h)))
   .rw[IF l9];exact HI (LI (HK ⟨rfl,rfl,no l9,rs⟩))
  .rename_i hh;exact HK ⟨rfl,rfl,no yX_,rs⟩
 .rintro b s' ⟨rfl,rfl,Y,_⟩;rw[<-Y]at h;exact HK h
def a6a{Q:ev_}(hk:ew!)(hl:∀v∈az,∃k',Ko P w s.heap k' v)(h:Q false s):wpAny G_ A (tableMayTell u az) Q E s:=by
 unfold tableMayTell;split
 .exact HK h
 .refine HI (a7r hk ?_);rw[W_];refine HI (QQ _ (λrest r s'=>s'=s/\r=fF!/\∀v∈rest,v∈az) _ ?_ ?_ _ _ ⟨rfl,rfl,λ_ z=>z⟩)
  .rintro v rest r s' ⟨rfl,rfl,hr⟩;obtain⟨k',q⟩:=hl v (hr v HQ);refine HI (a7r q ?_);rw[W_];exact HK ⟨rfl,rfl,λy hy=>hr y eb!⟩
  .rintro r s' ⟨rfl,rfl,_⟩;exact HK h
def c3q{ks:be!}{i:Nat}(q1:yZ!)(e:k'=k):Hs ks k i=true:=by unfold Hs;rw[<-e];exact IV q1
def b5p{ks:be!}{i:Nat}{rest:l!}{be:pD!}(hc:(be=none/\(i::rest).find? du_=Mx ks k)\/∃j,be=some j/\Mx ks k=some j/\Hs ks k j=true/\j∉i::rest)(q1:yZ!)(b8:¬k'=k):
  yZ_\/∃j,be=some j/\Mx ks k=some j/\Hs ks k j=true/\j∉rest:=by
 obtain⟨e,Y⟩|⟨j,e,Y,h4,h5⟩:=hc
 .refine .inl gU!;rw[<-Y,LQ];have:Hs ks k i=false:=by unfold Hs;rw[q1];exact IF yW_
  rw[this]
 .exact .inr ⟨j,e,Y,h4,λz=>h5 (HL _ z)⟩
def tU{v:x5!}(q:Ko P w h k v):v.isStr z=decide (k=some hG_):=by
 by_cases e:k=some hG_
 .subst e;rw[fD_];obtain⟨i,t,e,_⟩|⟨i,t,e,rfl⟩:=bQ q
  .cases e
  .cases e;simp[Value.isStr]
 .rw[IF e];cases v<;>first|rfl|skip
  rename_i y t;simp only[Value.isStr,KI,ne_eq];rintro rfl;exact e (a7s q (tS y t))
def c2f{es:bP!}{ks:be!}(x:kI!)(z:Str):(es.findIdx? λe=>e.key.isStr z)=Mx ks (some hG_):=by
 cases hk:Mx ks (some hG_)with
 |none=>
  rw[Array.findIdx?_eq_none_iff];intro e he;obtain⟨i,hi⟩:=Array.mem_iff_getElem?.mp he;obtain⟨k',q1,q2,_⟩:=x.get hi;rw[tU q2];exact IF λ(e:k'=_)=>a8g hk i y0!
 |some j=>
  obtain⟨Y,L⟩:=rB hk;have hj:j<es.size:=by rw[x.len];exact(kf!).1
  rw[Array.findIdx?_eq_some_iff_getElem];refine⟨hj,?_,fE_⟩
  .obtain⟨k',q1,q2,_⟩:=x.get (JH hj);rw[tU q2];rw[Y]at q1;cases q1;exact IV rfl
  .obtain⟨k',q1,q2,_⟩:=x.get (JH (RK hi hj));rw[tU q2,IF (λ(e:k'=_)=>L i hi y0!)];simp
def d2c{g:Prop}(h:∃T:Prop,(T->g)/\T):g:=let⟨_,f,k⟩:=h;f k
def rK{o:Obj}{es:bP!}{ep:Nat}{ks:be!}{Q:yU!}(hu:at!)(x:yU_)(hk:ew!)
  (ho:yV!)(hd:yV_)(h:Q hG! s):wpAny G_ A (dictFind d u dv!) Q E s:=by
 have b9:∀v∈(kI_).filterMap (λi=>es[i]?.map kL!),∃k',Ko P w s.heap k' v:=λv hv=>by
  obtain⟨i,_,e⟩:=MO.mp hv;obtain⟨e',e1,rfl⟩:=HU.mp e;obtain⟨k',_,q,_⟩:=x.get e1;exact⟨k',q⟩
 have ZW:¬(es.any λe=>e.key==u&&e.hash != mkHash P w k)=true:=λz=>by
  obtain⟨i,hi,z⟩:=Array.any_eq_true.mp z;rw[IZ,NE,bne_iff_ne]at z;obtain⟨k',_,q,q3⟩:=x.get (JH hi);rw[z.1]at q;exact z.2 (by rw[q3,a7s q hk])
 show"!m";have qi:(kI_).Nodup:=c8t;have a7:wpAny G_ A yW! Q E s:=a9x hu x hk ho hd h;unfold dictFind;refine JO (HI (LX ho hd ?_));refine d2c ?_;apply Exists.intro;apply And.intro
 .intro tl;have y8:(∃a,u=.ref a)\/(∃z t,u=.str z t/\k=some hG_)\/(u=.none\/∃i t,u=.int i t):=by
   clear tl;obtain _|k|k:=k
   .exact .inr (.inr (.inl hk))
   .obtain⟨i,t,rfl,rfl⟩|⟨i,t,rfl,rfl⟩:=bQ hk
    .exact .inr (.inr (.inr ⟨i,t,rfl⟩))
    .exact .inr (.inl ⟨i,t,rfl,rfl⟩)
   .obtain⟨a,rfl,_⟩:=hk;exact .inl ⟨a,rfl⟩
  obtain⟨a,ea⟩|⟨z,t,ea,VT⟩|ea|⟨i,t,ea⟩:=y8
  all_goals rw[ea]
  all_goals dsimp only
  rotate_left
  refine wpAny_ite_split (λic=>?_) λ_=>?_
  .clear tl;unfold foundByValue;rw[c2f x z,<-VT];cases hj:Mx ks k with
   |none=>rw[hj]at h;exact HK h
   |some j=>
    obtain⟨Y,_⟩:=rB hj;have am:j<es.size:=by rw[x.len];exact(kf!).1
    obtain⟨k',q1,q2,_⟩:=x.get (JH am);rw[Y]at q1;cases q1;show"#.";rw[JH am,<-ea];refine HI pB_;rw[W_,fD_];rw[hj]at h;exact HI (LI (HK h))
  all_goals rw[<-ea]
  all_goals refine wpAny_ite_split (λ_=>a7) λ_=>?_
  rotate_right
  rw[HP ZW]
  all_goals refine wpAny_ite_split (λ_=>HI ac_) λ_=>HI (a6a hk b9 ?_)
  all_goals rw[W_]
  all_goals exact tl
 refine HI (QQ _ (λrest b s'=>s'=s/\∃be,b=(none,be)/\(∀i∈rest,i<es.size)/\rest.Nodup/\
  (yZ_\/∃j,be=some j/\Mx ks k=some j/\Hs ks k j=true/\j∉rest)) _ ?_ ?_ _ _ ⟨rfl,none,rfl,hl,qi,.inl ⟨rfl,hf⟩⟩)
 rotate_left
 .rintro b s' ⟨rfl,be,rfl,_,_,hc⟩;obtain⟨rfl,Y⟩|⟨j,rfl,Y,_⟩:=hc
  .rw[<-Y]at h;exact HK h
  .rw[Y]at h;exact HK h
 .rintro i rest b s' ⟨rfl,be,rfl,L,h3,hc⟩;have am:=L i HQ;have he:es[i]?=some es[i]:=JH am;obtain⟨k',q1,q2,q3⟩:=x.get he;obtain⟨n1,n2⟩:=IJ.mp h3;show"#,";have stay:=λb8=>b5p hc q1 b8;rw[he];show"#.";split
  .refine HI pB_;rw[W_];by_cases l9:k'=k
   rotate_left
   .rw[IF l9];simp only[IW,JK,Bool.false_and];exact HI (LI (HK ⟨rfl,be,rfl,rs,n2,stay l9⟩))
   .have hi:=c3q q1 l9;rw[IV l9];obtain⟨rfl,Y⟩|⟨j,e,Y,h4,h5⟩:=hc
    .have hL:=Y;rw[LQ,hi]at hL;simp only[JT,Option.isSome_none,IW,JK];refine HI h5_;split
     .rw[<-hL]at h;exact HK (HK h)
     .exact HK ⟨rfl,K!,rfl,rs,n2,.inr ⟨i,rfl,hL.symm,hi,n1⟩⟩
    .exact absurd (x.one hi h4) λz=>h5 (z▸HQ)
  .rename_i hh;exact HK ⟨rfl,be,rfl,rs,n2,stay yX_⟩
end
def Pi(h:Heap)(a:x7!)(es:ae!)(ep:Nat):Prop:=∃o,h.get? a=some o/\ii!/\o.data=.dict es.toArray ep
def Pi.typeIs{s:yR!}{a:x7!}{es:ae!}{ep:Nat}(D:hI_):s.TypeIs ag! "dict":=let⟨o,ho,hc,_⟩:=D;⟨o,ho,hc.1⟩
def Yu(es:ae!)(j:pD!)(h:Int)(u v:x5!):List DictEntry:=match j with
 |some j=>es.modify j λe=>{e with val:=v}
 |none=>es++[⟨h,u,v⟩]
def Yt(j:pD!)(ep:Nat):Nat:=match j with
 |some _=>ep
 |none=>ep+1
section
variable{P:yp!}{w:xV!}{A:x6!}{E:Value->Shared->Prop}{s:yR!}{a:x7!}{es:List DictEntry}{ep:Nat}{ks:List MK}{k:MK}{u v:x5!}
def d3s{Q:fA!}(hu:at!)(D:hI_)(x:kL_)(hk:ew!)(h:∀tk,Q ((hG!).bind λj=>es[j]?.map (·.val)) {s with toks:=tk}):
  wpAny G_ A (dictGet a u) Q E s:=by
 obtain⟨o,ho,_,hd⟩:=D;unfold dictGet;refine JO pG_;have h:=h tk;cases hj:Mx ks k with
 |none=>rw[hj]at h;exact HK h
 |some j=>
  rw[hj]at h;refine HI (LX (s:=ey_) ho hd ac_);rw[MB];exact h
def wE{h:Heap}{f:Array DictEntry->Array DictEntry}{ay:ae!}{o:Obj}(ho:h.get? a=some o)(hc:ii!)(hd:o.data=.dict es.toArray ep)(he:f es.toArray=ay.toArray):
  Pi (h.update a (Obj.mapDict f)) a ay ep/\Pi (h.update a (Obj.mapDictKeys f)) a ay bH!:=
 ⟨⟨_,NU _ ho (Obj.isFreed_of_dict (Obj.data_mapDict hd _)),hc.mapDict _,by rw[Obj.data_mapDict hd,he]⟩,⟨_,NU _ ho (Obj.isFreed_of_dict (Obj.data_mapDictKeys hd _)),hc.mapDictKeys _,by rw[Obj.data_mapDictKeys hd,he]⟩⟩
def d3r{Q:cZ!}(hu:at!)(D:hI_)(x:kL_)(hk:ew!)(hl:pI_)
  (h:∀h' tk,Pi h' a (Yu es hG! dv! u v) (Yt hG! ep)->Heap.SameBut a s.heap h'->Q () {s with heap:=h',toks:=tk}):wpAny G_ A y5_ Q E s:=by
 obtain⟨o,ho,hc,hd⟩:=D;unfold dictSet;refine JO (HI (vY hu hk λtk=>?_));unfold dictSetHashed;refine JO (HI y2_);cases hj:Mx ks k with
 |none=>
  rw[hj]at h;exact HI (LI (RE (s:=ey_) ho hd (h _ tk (y6_).2 eu!) (hz:=kN_)))
 |some j=>
  rw[hj]at h;exact HI (LI (HI (wpAny_updateDict (s:=ey_) ho hd (wpAny_point (h _ tk (y6_).1 eu!)))))
def rN{Q:q_}(hu:at!)(D:hI_)(x:kL_)(hk:ew!)(hl:pI_)
  (Y:∀j e tk,Mx ks k=some j->es[j]?=some e->Q e.val {s with toks:=tk})
  (L:∀h' tk,Mx ks k=none->Pi h' a (es++[⟨mkHash P w k,u,v⟩]) bH!->Heap.SameBut a s.heap h'->Q v {s with heap:=h',toks:=tk}):wpAny G_ A (dictSetDefault a u v) Q E s:=by
 obtain⟨o,ho,hc,hd⟩:=D;unfold dictSetDefault;refine JO pG_;cases hj:Mx ks k with
 |none=>
  exact HI (LI (HI (RE (s:=ey_) ho hd (HK (L _ tk hj (wE ho hc hd d!).2 eu!)) (hz:=kN_))))
 |some j=>
  have am:j<aj!:=by
   have:=(IL.mp (rB hj).1).1;rw[<-x.len]at this;simpa using this
  refine HI y9_;rw[MB,II am];exact HI (LI (HK (Y j _ tk hj (II am))))
def d0h{j:Nat}{e:DictEntry}{Q:Option DictEntry->Shared->Prop}(hu:at!)(D:hI_)(x:kL_)(hk:ew!)(hl:pI_)(hj:yT!)(he:es[j]?=some e)
  (h:∀h' tk,Pi h' a zb_ bH!->Heap.SameBut a s.heap h'->Q iC! {s with heap:=h',toks:=tk}):wpAny G_ A zc! Q E s:=by
 obtain⟨o,ho,hc,hd⟩:=D;unfold Builtin.Dict.takeOut;refine JO pG_;rw[hj];refine HI y9_;rw[MB,he];have am:j<aj!:=(IL.mp he).1;refine HI (RE (s:=ey_) ho hd (HK (h _ tk (wE ho hc hd ?_).2 eu!)) (hz:=kN_) (hf:=?_))
 .rw[Array.eraseIdxIfInBounds,dif_pos zc_];simp
 .rw[Array.eraseIdxIfInBounds];split
  .rw[Array.size_eraseIdx];omega
  .omega
end
def Ma:List D->Option (List L2.Key)
 |[]=>some []
 |.int i::r=>(Ma r).map (Sum.inl i::·)
 |.str x::r=>(Ma r).map (Sum.inr x::·)
 |_::_=>none
def Db:D->Option MK
 |.non=>some none
 |.int i=>some (some (.inl (.inl i)))
 |.str x=>some (some (.inl (.inr x)))
 |.tup xs=>(Ma xs).map λks=>some (.inr ks)
 |_=>none
def a1d:∀{xs ys:c!} {ks:pz_},Ma xs=some ks->Ma ys=some ks->xs=ys
 |[],ys,ks,h,h'=>by
  cases h;cases ys with
  |nil=>rfl
  |cons y r=>cases y<;>simp[Ma]at h'
 |x::xs,[],ks,h,h'=>by
  cases h';cases x<;>simp[Ma]at h
 |x::xs,y::ys,ks,h,h'=>by
  cases x<;>simp only[Ma]at h<;>first|(cases h;done)|skip
  all_goals (obtain⟨l,e1,rfl⟩:=HU.mp h)
  all_goals (cases y<;>simp only[Ma]at h'<;>first|(cases h';done)|skip)
  all_goals (obtain⟨l',e2,e3⟩:=HU.mp h')
  all_goals (injection e3 with e4 e5)
  all_goals first|(injection e4;done)|skip
  all_goals (injection e4 with e4;subst e4 e5;rw[a1d e1 e2])
def b4i(h:aD!)(h':cl!):x=y:=by
 cases x<;>simp only[Db]at h<;>first|(cases h;done)|skip
 all_goals (cases y<;>simp only[Db]at h'<;>first|(cases h';done)|skip)
 all_goals first
  |rfl
  |(cases h;cases h';rfl)
  |(cases h;cases h')
  |(cases h;obtain⟨l,e1,e2⟩:=HU.mp h';cases e2)
  |(cases h';obtain⟨l,e1,e2⟩:=HU.mp h;cases e2)
  |(obtain⟨l,e1,e2⟩:=HU.mp h;obtain⟨l',e3,e4⟩:=HU.mp h';cases e2;cases e4;rw[a1d e1 e3])
def Cw(K:yS!)(G:Hp)(d:D)(u:x5!):Prop:=∃v,Ax K G d v/\Bu v u
def Cw.mono{K:yS!}{G G':Hp}(e:kO_)(h:Cw K G d u):Cw K G' d u:=let⟨v,Y,L⟩:=h;⟨v,Y.mono e,L⟩
def a6r{K:yS!}{G:Hp}:∀{ds:c!} {vs:n_} {ks:pz_},An K G ds vs->Ma ds=some ks->vs=ks.map kV
 |[],vs,ks,r,e=>by cases cS r;cases e;rfl
 |d::ds,vs,ks,r,e=>by
  obtain⟨v,t,rfl,r1,r2⟩:=bR r;cases d<;>simp only[Ma]at e<;>first|(cases e;done)|skip
  all_goals (obtain⟨l,e1,rfl⟩:=HU.mp e;rw[a6r r2 e1])
  .cases bG r1;rfl
  .cases cI r1;rfl
def sN{X:Cx}{h1:o!}{Z:St}{G H:Hp}{s:yR!}(I:d_)(sub:K_)(r:bX_)(e:bs!):Ko X.prog X.w s.heap k u:=by
 obtain⟨v,r,ru⟩:=r;cases d<;>simp only[Db]at e<;>first|(cases e;done)|skip
 .cases e;cases eH r;exact ru
 .cases e;cases bG r;obtain⟨t,rfl⟩:=ru;exact a1e _ _
 .cases e;cases cI r;obtain⟨t,rfl⟩:=ru;exact tS _ _
 .obtain⟨ks,e1,rfl⟩:=HU.mp e;obtain⟨a,vs,rfl,q,rr⟩:=bS r;cases ru;show"#4";rw[a6r rr e1]at rv;exact⟨a,rfl,o,bg_,n,Y,L,h3,by simpa using tT rv⟩
open Classical in
nonrec def kget:List aD_->D->Option D
 |[],_=>none
 |(k,v)::r,d=>if k=d then some v else kget r d
open Classical in
def As:List aD_->D->D->List aD_
 |[],d,v=>[(d,v)]
 |(k,x)::r,d,v=>if k=d then(k,v)::r else(k,x)::As r d v
open Classical in
def Gv:List aD_->D->List aD_
 |[],_=>[]
 |(k,x)::r,d=>if k=d then r else(k,x)::Gv r d
section
variable{P:yp!}{w:xV!}{K:yS!}{G G':Hp}
variable (P w K G)in
def CW(p:D×D)(e:DictEntry):Prop:=Cw K G p.1 e.key/\Cw K G p.2 e.val/\∃k,Db p.1=some k/\e.hash=mkHash P w k
variable (P w K G)in
def Hz(kvs:i!)(es:ae!):Prop:=Paired (CW P w K G) kvs es/\(fH_).Nodup
def Hz.mono{es:ae!}(e:kO_)(h:fI!):Hz P w K G' kvs es:=
 ⟨Paired.mapP h.1 λp q z=>⟨z.1.mono e,z.2.1.mono e,z.2.2⟩,h.2⟩
def Jc(kvs:i!):List MK:=kvs.map λp=>(Db p.1).getD none
def gP{α β:Type}{F:cX!}:∀{l:P_} {m:dH_} {i:Nat} {a:α},Paired F l m->l[i]?=some a->∃b,m[i]?=some b/\F a b
 |_,_,_,_,.nil,e=>by simp at e
 |_,_,0,_,.cons r _,e=>by simp at e;subst e;exact lP!
 |_,_,i+1,a,.cons _ t,e=>by
  obtain⟨b,Y,L⟩:=gP (i:=i) (a:=a) t cV_;exact⟨b,ig!,L⟩
def jN{α β:Type}{F:cX!}:∀{l l':P_} {m m':dH_},Paired F l m->Paired F l' m'->Paired F (l++l') (m++m')
 |_,_,_,_,.nil,h=>h
 |_,_,_,_,.cons r t,h=>.cons r (jN t h)
def oN{α β:Type}{F:cX!}{f:α->α}{g:β->β}:∀{l:P_} {m:dH_} (j:Nat),Paired F l m->(∀a b,l[j]?=some a->m[j]?=some b->F a b->F (f a) (g b))->Paired F (l.modify j f) (m.modify j g)
 |_,_,j,.nil,_=>by simpa using Paired.nil
 |_,_,0,.cons r t,h=>.cons (h _ _ rfl rfl r) t
 |_,_,j+1,.cons r t,h=>.cons r (oN j t λa b e1 e2=>h a b (by simpa using e1) (by simpa using e2))
def qF{α β:Type}{F:cX!}:∀{l:P_} {m:dH_} (j:Nat),Paired F l m->Paired F (l.eraseIdx j) (m.eraseIdx j)
 |_,_,_,.nil=>.nil
 |_,_,0,.cons _ t=>t
 |_,_,j+1,.cons r t=>.cons r (qF j t)
def Hz.ents{X:Cx}{h1:o!}{Z:St}{H:Hp}{s:yR!}{es:ae!}(I:d_)(sub:K_)(h:Hz X.prog X.w X.K G kvs es):Oy X.prog X.w s.heap es.toArray fI_:=by
 obtain⟨Y,L⟩:=h;refine⟨by simp[Jc,MQ Y],λi e k he hk=>?_,?_⟩
 .rw[MB]at he;unfold Jc at hk;rw[JC]at hk;obtain⟨p,hp,rfl⟩:=HU.mp hk;obtain⟨e',cp,q1,_,k',q2,q3⟩:=gP Y hp;rw[he]at cp;cases cp;rw[q2];exact⟨sN I sub q1 q2,q3⟩
 .have kj:∀{l:i!} {m:ae!},Paired (CW X.prog X.w X.K G) l m->(ez_).Nodup->(Jc l).Nodup:=by
   intro l m hp
   induction hp with
   |nil=>intro _;exact NS
   |@cons p e l m q t ih=>
    intro nd;rw[HV,IJ]at nd;show(_::Jc l).Nodup;rw[IJ];refine⟨cl_,ih nd.2⟩;obtain⟨p',bx,e'⟩:=IH.mp z;obtain⟨_,_,k,hk,_⟩:=q;obtain⟨i,hi⟩:=MY.mp bx;obtain⟨_,_,_,_,k',cx,_⟩:=gP t hi;dsimp only at e';rw[hk,cx]at e';have:k'=k:=e';subst this;exact nd.1 (IH.mpr ⟨p',bx,b4i cx hk⟩)
  exact kj Y L
def Hz.look{kvs:i!}{es:ae!}(h:fI!)(hd:bs!):
  (Mx fI_ k=none/\kget kvs d=none/\(∀v,As kvs d v=kvs++[(d,v)])/\d∉kvs.map c_)\/∃j x e,Mx fI_ k=some j/\kvs[j]?=some dx_/\es[j]?=some e/\kget kvs d=some x/\Cw K G x e.val/\(∀v,As kvs d v=kvs.modify j λp=>(p.1,v))/\Gv kvs d=kvs.eraseIdx j:=by
 obtain⟨Y,L⟩:=h
 induction Y with
 |nil=>exact .inl ⟨rfl,rfl,e4_,H!⟩
 |@cons p e l m q t ih=>
  obtain⟨y,z⟩:=p;rw[HV,IJ]at L;obtain⟨_,q2,k',q3,_⟩:=q;have q3:Db y=some k':=q3;have oj:Jc ((y,z)::l)=k'::Jc l:=by unfold Jc;rw[HV,q3];rfl
  by_cases hy:y=d
  .subst hy;rw[hd]at q3;cases q3;refine .inr ⟨0,z,e,?_,rfl,rfl,by simp[kget],q2,λv=>by simp[As,List.modify],by simp[Gv]⟩;rw[oj];unfold Mx;rw[List.findIdx?_cons];simp
  .have b8:k'≠k:=λe=>hy (b4i q3 (e▸hd));have cx:Mx (Jc ((y,z)::l)) k=(Mx (Jc l) k).map (·+1):=by
    rw[oj];unfold Mx;rw[List.findIdx?_cons];simp[b8]
   obtain⟨i1,i2,i3,i4⟩|⟨j,x,e',i1,i2,i3,i4,i5,i6,i7⟩:=ih L.2
   .refine .inl ⟨zg_,by simp[kget,hy,i2],λv=>by simp[As,hy,i3 v],?_⟩;rw[HV,HN,ON];exact⟨λe=>hy e.symm,i4⟩
   .exact .inr ⟨j+1,x,e',zg_,by simpa using i2,by simpa using i3,by simp[kget,hy,i4],i5,λv=>by simp[As,hy,i6 v],by simp[Gv,hy,i7]⟩
def Hz.put{es:ae!}(h:fI!)(hd:bs!)(ru:Cw K G d u)(rv:Cw K G x v):Hz P w K G pM! (Yu es (Mx fI_ k) dv! u v):=by
 obtain⟨i1,i2,i3,i4⟩|⟨j,y,e',i1,i2,i3,i4,i5,i6,i7⟩:=h.look hd
 .rw[i1,i3];refine⟨jN h.1 (.cons ⟨ru,rv,k,hd,rfl⟩ .nil),?_⟩;rw[IU,IY];refine⟨h.2,H!,λa ha b hb e=>?_⟩;simp at hb;subst hb e;exact i4 ha
 .rw[i1,i6];refine⟨oN j h.1 λa b _ _ q=>⟨q.1,rv,q.2.2⟩,?_⟩;have:∀(l:i!) (j:Nat),(l.modify j λp=>(p.1,x)).map c_=l.map c_:=by
   intro l
   induction l with
   |nil=>intro j;simp
   |cons p l ih=>
    intro j;cases j with
    |zero=>simp
    |succ j=>simp[ih j]
  rw[this];exact h.2
def Hz.del{kvs:i!}{es:ae!}{j:Nat}(h:fI!):Hz P w K G (kvs.eraseIdx j) zb_:=by refine⟨qF j h.1,?_⟩;exact h.2.sublist ((List.eraseIdx_sublist kvs j).map _)
end
inductive Pj where
 |lst (xs:c!)|dct (kvs:i!) (ep:Nat)|obj (C:x7!) (fs:aV!)
abbrev Mh:=Addr->Option Pj
def Bg(M:Mh)(a:x7!)(c:Pj):Mh:=λb=>if b=a then some c else M b
def mup_same{M:Mh}{a:x7!}{c:Pj}:Bg M a c a=some c:=by unfold Bg;rw[k_]
def mup_ne{M:Mh}{a b:x7!}{c:Pj}(h:b≠a):Bg M a c b=M b:=by unfold Bg;rw[HP h]
nonrec def dE(a:x7!)(es:ae!)(ep:Nat):HO:=.ext λh=>Pi h a es ep/\dH!=false/\aj!<=big
def Ox(K:yS!)(G:Hp):List ci!->List dG_->Prop:=Paired λp q=>p.1=q.1/\Ax K G p.2 q.2
section
variable(P:yp!)(w:xV!)(K:yS!)
def Hj(G H:Hp)(a:x7!):Pj->Prop
 |.lst xs=>∃vs,H a=some dm_/\An K G xs vs
 |.dct kvs ep=>∃es,H a=some kR!/\Hz P w K G kvs es
 |.obj C fs=>∃dx vs,H a=some zi!/\Ox K G fs vs
structure MR(M:Mh)(G H:Hp):Prop where
 cell:∀a c,M a=some c->G a=none/\Hj P w K G H a c
end
structure XM(M:Mh)(G H:Hp)(M':Mh)(G' H':Hp):Prop where
 g:Bk G G'
 sub:Bk G' H'
 new:∀b,G' b≠none->G b≠none\/H b=none
 keep:∀b o,H b=some o->M b=none->H' b=some o
 dom:∀b,M' b≠none->M b≠none\/H b=none
 cells:∀b,M b≠none->M' b≠none
def XM.refl{M:Mh}{G H:Hp}(s:K_):XM M G H M G H:=⟨fm_,s,ef_,λ_ _ h _=>h,ef_,λ_ h=>h⟩
def XM.free{M M':Mh}{G H G' H':Hp}{b:x7!}(x:kR_)(hM:M b=none)(h:H' b=none):H b=none:=by
 cases e:H b with
 |none=>rfl
 |some o=>rw[x.keep b o e hM]at h;cases h
section
variable{P:yp!}{w:xV!}{K:yS!}{M M1 M2:Mh}{G H G' H' G1 H1 G2 H2:Hp}
def Ox.mono{fs:aV!}{vs:eL!}(e:kO_)(h:Ox K G fs vs):Ox K G' fs vs:=Paired.mapP h λ_ _ z=>⟨z.1,z.2.mono e⟩
def Hj.mono{a:x7!}{c:Pj}(e:kO_)(h:zk!)(hH:H' a=H a):Hj P w K G' H' a c:=by
 cases c with
 |lst xs=>obtain⟨vs,Y,L⟩:=h;exact⟨vs,pN_,L.mono e⟩
 |dct kvs ep=>obtain⟨es,Y,L⟩:=h;exact⟨es,pN_,L.mono e⟩
 |obj C fs=>obtain⟨dx,vs,Y,L⟩:=h;exact⟨dx,vs,pN_,L.mono e⟩
def Hj.has{a:x7!}{c:Pj}(h:zk!):H a≠none:=by
 cases c with
 |lst xs=>obtain⟨vs,Y,L⟩:=h;rw[Y];simp
 |dct kvs ep=>obtain⟨es,Y,L⟩:=h;rw[Y];simp
 |obj C fs=>obtain⟨dx,vs,Y,L⟩:=h;rw[Y];simp
def MR.has(m:cm!){c:x7!}(h:M c≠none):H c≠none:=by
 cases e:M c with
 |none=>exact absurd e h
 |some q=>exact(m.cell c q e).2.has
def XM.trans(a:XM M G H M1 G1 H1)(b:XM M1 G1 H1 M2 G2 H2)(m:zl!):XM M G H M2 G2 H2 where
 g:=a.g.trans b.g
 sub:=b.sub
 new:=λc h=>by
  obtain z|z:=b.new c h
  .exact a.new c z
  .cases hM:M c with
   |none=>exact .inr (a.free hM z)
   |some q=>exact absurd z (m.has (a.cells c zl_))
 keep:=λc o h hM=>by
  refine b.keep c o (a.keep c o h hM) ?_;cases e:M1 c with
  |none=>rfl
  |some q=>
   rcases a.dom c pP! with z|z
   .exact absurd hM z
   .rw[h]at z;cases z
 dom:=λc h=>by
  obtain z|z:=b.dom c h
  .exact a.dom c z
  .cases hM:M c with
   |none=>exact .inr (a.free hM z)
   |some q=>exact .inl d!
 cells:=λc h=>b.cells c (a.cells c h)
def XM.ext(x:jS!):XM M G H M G' H':=⟨x.g,x.sub,x.new,λb o h _=>x.h b o h,ef_,λ_ h=>h⟩
def MR.ext(m:cm!)(x:jS!):MR P w K M G' H':=⟨λa c e=>by
 obtain⟨Y,L⟩:=m.cell a c e;have hn:H a≠none:=L.has;refine zm_
 .cases q:G' a with
  |none=>rfl
  |some o=>
   rcases x.new a b9! with z|z
   .exact absurd Y z
   .exact absurd z hn
 .cases q:H a with
  |none=>exact absurd q hn
  |some o=>exact x.h a o q⟩
end
structure Tl(P:yp!)(w:xV!)(K:yS!)(own:l!)(G H:Hp)(Z:St)(ρ:Ae)(M:Mh):Prop where
 or:OR K own G H Z ρ
 mr:MR P w K M G H
 dj:∀i∈own,∀p,Z[i]?=some ce!->M p=none
section
variable{P:yp!}{w:xV!}{K:yS!}{own:List Nat}{M M' M1 M2:Mh}{G H G' H' G1 H1 G2 H2:Hp}{Z:St}{ρ:Ae}
def OR.growM(h:ce_)(x:kR_)(dj:∀i∈own,∀p,Z[i]?=some ce!->M p=none):OR K own G' H' Z ρ where
 sub:=x.sub
 len:=h.len
 at_:=λi d q n=>let⟨v,Y,L⟩:=h.at_ i d q n;wn!
 own_:=λi hi=>by
  obtain⟨p,ds,vs,Y,L,h3,h4,h5⟩:=h.own_ i hi;refine⟨p,ds,vs,Y,L,x.keep _ _ h3 (dj i hi p L),?_,h5.mono x.g⟩;cases q:G' p with
  |none=>rfl
  |some o=>
   rcases x.new p b9! with z|z
   .exact absurd h4 z
   .rw[h3]at z;cases z
 dis:=h.dis
def Tl.grow(s:hM_)(x:kR_)(m:zn_):Tl P w K own G' H' Z ρ M':=
 ⟨s.or.growM x s.dj,m,λi hi p e=>by
  cases q:M' p with
  |none=>rfl
  |some c=>
   obtain⟨p',ds,vs,Y,L,h3,h4,h5⟩:=s.or.own_ i hi;rw[e]at L;cases L;rcases x.dom p b9! with z|z
   .exact absurd (s.dj i hi p e) z
   .rw[h3]at z;cases z⟩
end
abbrev WE:=Ae->Mh->zp!->Prop
abbrev WA:=Ae->Mh->zo_->Prop
abbrev WT:=Ae->Mh->(Bool->Mh->Prop)->Prop
section
variable(P:yp!)(w:xV!)(K:yS!)(own:List Nat)
inductive BG(f:WE)(Z:St)(H:Hp)(Q:VK):Prop
 |mk (G:Hp) (ρ:Ae) (M:Mh) (R:s_) (st:hM_) (e:hO!) (k:∀d M' v G' H',R d M'->XM M G H M' G' H'->MR P w K M' G' H'->Ax K G' d v->Q v H'):BG f Z H Q
inductive FU(f:WA)(Z:St)(H:Hp)(Q:c0_):Prop
 |mk (G:Hp) (ρ:Ae) (M:Mh) (R:kT_) (st:hM_) (e:hO!) (k:∀d M' v G' H',R d M'->XM M G H M' G' H'->MR P w K M' G' H'->An K G' d v->Q v H'):FU f Z H Q
inductive Zi(f:WT)(Z:St)(H:Hp)(Q:dK_):Prop
 |mk (G:Hp) (ρ:Ae) (M:Mh) (R:fK_) (st:hM_) (e:hO!) (k:∀d M' G' H',R d M'->XM M G H M' G' H'->MR P w K M' G' H'->Q d H'):Zi f Z H Q
end
structure ME(X:Cx)(own:l!)(e:Expr)(f:WE):Prop where
 ok:PE X e (BG X.prog X.w X.K own f)
structure MA(X:Cx)(own:l!)(es:bK!)(f:WA):Prop where
 ok:PA X es (FU X.prog X.w X.K own f)
structure MT(X:Cx)(own:l!)(e:Expr)(f:WT):Prop where
 ok:PT X e zp_
structure MW(X:Cx)(own:l!)(e:Expr)(f:WT):Prop where
 ok:PW X e zp_
nonrec def wl(f:e!):WE:=λρ M R=>match f ρ with|some d=>R d M|none=>False
def De(f:ah_):WT:=λρ M R=>match f ρ with|some d=>R d M|none=>False
section
variable{X:Cx}{own:List Nat}{e a b c:Expr}{es rest:List Expr}{pos:Pos}{f fa fb fc:WE}{fs:WA}{ft fu:WT}{g:Ae->Option D}{gs:Ae->Option (List D)}{gt:Ae->Option Bool}
def fB{t:TE}(h:ix_)(hw:∀Z G H Q ρ M R,Tl X.prog X.w X.K own G H Z ρ M->f ρ M R->(∀d M' v G' H',R d M'->XM M G H M' G' H'->MR X.prog X.w X.K M' G' H'->Ax X.K G' d v->Q v H')->t Z H Q):ME X own e f:=
 zq!
def c7t{t:TA}(h:gG_)(hw:∀Z G H Q ρ M R,Tl X.prog X.w X.K own G H Z ρ M->fs ρ M R->(∀d M' v G' H',R d M'->XM M G H M' G' H'->MR X.prog X.w X.K M' G' H'->An X.K G' d v->Q v H')->t Z H Q):MA X own es fs:=
 ⟨λp h1 s Z H Q I ⟨G,ρ,M,R,st,e,k⟩=>h p h1 s Z H Q I pQ!⟩
def b4g{t:TT}(h:PT X e t)(hw:zr!):MT X own e ft:=
 zq!
def c7p{t:TT}(h:PW X e t)(hw:zr!):MW X own e ft:=
 ⟨λwh h1 s Z H Q I ⟨G,ρ,M,R,st,e,k⟩=>h wh h1 s Z H Q I pQ!⟩
def c3n{ρ:Ae}{M:Mh}{R:s_}(h:wl g ρ M R):∃d,g ρ=some d/\R d M:=by
 unfold wl at h;split at h
 .exact zr_
 .exact h.elim
def b7y{ρ:Ae}{M:Mh}{R:fK_}(h:De gt ρ M R):∃d,gt ρ=some d/\R d M:=by
 unfold De at h;split at h
 .exact zr_
 .exact h.elim
def aB(h:DE X own e g):ME X own e (wl g):=fB h.ok λZ G H Q ρ M R st e' k=>by
 obtain⟨d,e1,e2⟩:=c3n e';exact⟨G,ρ,d,st.or,e1,λv G' H' x r=>k d M v G' H' e2 (.ext x) pR_ r⟩
def fA(h:DT X own e gt):MT X own e (De gt):=b4g h.ok λZ G H Q ρ M R st e' k=>by
 obtain⟨d,e1,e2⟩:=b7y e';exact⟨G,ρ,d,st.or,e1,λG' H' x=>k d M G' H' e2 (.ext x) pR_⟩
def Af:WA:=λ_ M R=>R [] M
def Ab(f:WE)(fs:WA):WA:=λρ M R=>f ρ M λd M1=>fs ρ M1 λds M2=>R ee_ M2
def aI:MA X own [] Af:=c7t gQ λZ G H Q ρ M R st e k=>k [] M [] G H e pS! st.mr An.nil
def aC(h:bY!)(hs:hP!)(b9:az!:=by rfl):MA X own aO! (Ab f fs):=
 c7t wK! λZ G H Q ρ M R st e' k=>⟨G,ρ,M,_,st,e',λd M1 v G1 H1 r1 x1 m1 q1=>⟨G1,ρ,M1,_,st.grow x1 m1,r1,λds M2 vs G2 H2 r2 x2 m2 q2=>
  k _ M2 _ G2 H2 r2 cO_ m2 (An.cons cm_ q2)⟩⟩
def Yf(P:yp!)(w:xV!)(K:yS!)(r:R2)(g:bf!):Prop:=∀{x y:V} {dx dy d:D} {M:Mh} {G H:Hp} {Q:VK},Bk G H->MR P w K M G H->Ax K G dx x->Ax K G dy y->g M dx dy=some d->jX!->r x y H Q
def Im.m{P:yp!}{w:xV!}{K:yS!}{r:R2}{g:bd!}(h:Im K r g):Yf P w K r (λ_=>g):=λs _ rx ry e k=>h s rx ry e k
nonrec def w2(g:bf!)(fa fb:WE):WE:=λρ M R=>fa ρ M λx M1=>fb ρ M1 λy M2=>match g M2 x y with|some d=>R d M2|none=>False
def c3s{r:R2}{gm:bf!}(hg:hP_){Z:St}{G H:Hp}{Q:VK}{ρ:Ae}{M:Mh}{R:s_}(st:zs!)(e:w2 gm fa fb ρ M R)
  (k:∀d M' v G' H',R d M'->XM M G H M' G' H'->MR X.prog X.w X.K M' G' H'->Ax X.K G' d v->Q v H'):BD r (BG X.prog X.w X.K own fa) (BG X.prog X.w X.K own fb) Z H Q:=
 ⟨G,ρ,M,_,st,e,λx M1 u G1 H1 r1 x1 m1 q1=>⟨G1,ρ,M1,_,st.grow x1 m1,r1,λy M2 v G2 H2 r2 x2 m2 q2=>by
  have r2:(match gm M2 x y with|some d=>R d M2|none=>False):=r2;split at r2
  .rename_i d hd;exact hg x2.sub m2 cm_ q2 hd λz G3 H3 x3 q3=>k d M2 z G3 H3 r2 ((cO_).trans (.ext x3) m2) (m2.ext x3) q3
  .exact r2.elim⟩⟩
def uP{op:Operator}{r:R2}{gm:bf!}(ho:mO_)(hg:hP_)(ha:aE!)(hb:cP!):ME X own mP! kU_:=
 fB sr_ λZ G H Q ρ M R st e k=>c3s hg st e k
def jQ{op:CmpOp}{r:R2}{gm:bf!}(ho:b5_)(hg:hP_)(ha:aE!)(hb:cP!)(hm:dL_):ME X own dM! kU_:=
 fB ww_ λZ G H Q ρ M R st e k=>c3s hg st e k
def bX{r:R2}{gm:bf!}(hr:Ws X r)(hg:hP_)(ha:aE!)(hb:cP!)(hs:Qh b):ME X own nH_ kU_:=
 fB wx! λZ G H Q ρ M R st e k=>c3s hg st e k
nonrec def wT(f:WE):WT:=λρ M R=>f ρ M λd M1=>match d with|.bl b=>R b M1|_=>False
def cU{op:CmpOp}{r:R2}{gm:bf!}(ho:b5_)(hg:hP_)(ha:aE!)(hb:cP!)(hm:dL_):MT X own dM! (wT kU_):=
 b4g wx_ λZ G H Q ρ M R st e k=>c3s (own:=own) (Q:=wy!) hg st e λd M' v G' H' r' x' m' q'=>by
  cases d<;>first|exact r'.elim|skip
  cases dA q';exact zs_
def eZ(h:bY!)(he:iy!:=by intro _;rfl):MT X own e (wT f):=
 b4g (b9e h.ok he) λZ G H Q ρ M R st e k=>⟨G,ρ,M,_,st,e,λd M' v G' H' r' x' m' q'=>by
  cases d<;>first|exact r'.elim|skip
  cases dA q';exact zs_⟩
def Gu(ft fu:WT):WT:=λρ M R=>ft ρ M λb M1=>if b then fu ρ M1 R else R false M1
def Uw(ft fu:WT):WT:=λρ M R=>ft ρ M λb M1=>if b then R true M1 else fu ρ M1 R
def Ip(ft:WT):WT:=λρ M R=>ft ρ M λb M1=>R (!b) M1
def kO(h:hQ!):MW X own mo! ft:=wA_
def xO(h:hQ!):MW X own mo_ ft:=wB_
def pH(ha:hQ!)(hb:MW X own eQ! fu):MW X own eQ_ (Gu ft fu):=
 c7p wC! λZ G H Q ρ M R st e k=>⟨G,ρ,M,_,st,e,λx M1 G1 H1 r1 x1 m1=>by
  cases x with
  |true=>exact nB zt!
  |false=>exact nE zt_⟩
def a7q(ha:hQ!)(hb:MW X own eR! fu):MW X own eR_ (Uw ft fu):=
 c7p wD_ λZ G H Q ρ M R st e k=>⟨G,ρ,M,_,st,e,λx M1 G1 H1 r1 x1 m1=>by
  cases x with
  |false=>exact nE zt!
  |true=>exact nB zt_⟩
def vN(h:MW X own e ft):MT X own e ft:=⟨h.ok.pt⟩
def kP(h:hQ!):MT X own eS! (Ip ft):=
 b4g (b9g h.ok) λZ G H Q ρ M R st e k=>⟨G,ρ,M,_,st,e,λx M1 G1 H1 r1 x1 m1=>k _ M1 G1 H1 r1 x1 m1⟩
def Jw(fa fb:WE):WE:=λρ M R=>wT fa ρ M λb M1=>if b then fb ρ M1 R else R Q! M1
def Wi(fa fb:WE):WE:=λρ M R=>wT fa ρ M λb M1=>if b then R z_ M1 else fb ρ M1 R
def Wx(fa:WE):WE:=λρ M R=>wT fa ρ M λb M1=>R (.bl (!b)) M1
def tM{op:BoolOp}(h:aE!):ME X own mp_ fa:=wE_
def xV(ha:aE!)(hb:ME X own eQ! fb):ME X own eQ_ (Jw fa fb):=
 fB wF! λZ G H Q ρ M R st e k=>⟨G,ρ,M,_,st,e,λd M1 v G1 H1 r1 x1 m1 q1=>by
  cases d<;>first|exact r1.elim|skip
  rename_i x;cases dA q1;refine jZ_;cases x with
  |true=>exact nB kV_
  |false=>exact nE zu_⟩
def c7s(ha:aE!)(hb:ME X own eR! fb):ME X own eR_ (Wi fa fb):=
 fB wH_ λZ G H Q ρ M R st e k=>⟨G,ρ,M,_,st,e,λd M1 v G1 H1 r1 x1 m1 q1=>by
  cases d<;>first|exact r1.elim|skip
  rename_i x;cases dA q1;refine jZ_;cases x with
  |false=>exact nE kV_
  |true=>exact nB zu_⟩
def c9p(ha:aE!):ME X own eS! (Wx fa):=
 fB (b9y ha.ok) λZ G H Q ρ M R st e k=>⟨G,ρ,M,_,st,e,λd M1 v G1 H1 r1 x1 m1 q1=>by
  cases d<;>first|exact r1.elim|skip
  cases dA q1;exact⟨_,rfl,k _ M1 _ G1 H1 r1 x1 m1 Ax.bl⟩⟩
def Wz(ft:WT)(fa fb:WE):WE:=λρ M R=>ft ρ M λb M1=>if b then fa ρ M1 R else fb ρ M1 R
def c1a(hc:pS_)(ha:aE!)(hb:cP!):ME X own ms! (Wz ft fa fb):=
 fB wJ! λZ G H Q ρ M R st e k=>⟨G,ρ,M,_,st,e,λx M1 G1 H1 r1 x1 m1=>by
  cases x with
  |true=>exact nB kV_
  |false=>exact nE kV_⟩
def Qi(fs:WA):WE:=λρ M R=>fs ρ M λds M1=>h!<=1000/\R dm! M1
def Wy(fs:WA):WE:=λρ M R=>fs ρ M λds M1=>h!<=1000/\R cd! M1
def a3t{n:Nat}(h:hP!):ME X own (.Tuple es n pos) (Qi fs):=
 fB (b9t h.ok) λZ G H Q ρ M R st e k=>⟨G,ρ,M,_,st,e,λds M1 vs G1 H1 r1 x1 m1 q1=>⟨by rw[<-aL q1];exact gJ r1.1,λp hp=>
  k _ M1 _ _ _ r1.2 zv! (m1.ext pT!) (fZ zw! q1)⟩⟩
def c9q(h:hP!):ME X own i5! (Wy fs):=
 fB j1_ λZ G H Q ρ M R st e k=>⟨G,ρ,M,_,st,e,λds M1 vs G1 H1 r1 x1 m1 q1=>⟨by rw[<-aL q1];exact gJ r1.1,λp hp=>
  k _ M1 _ _ _ r1.2 zv! (m1.ext pT!) (dR zw! q1)⟩⟩
end
section
variable{P:yp!}{w:xV!}{K:yS!}{M:Mh}{G H:Hp}{p a:x7!}{o:HO}{c c0:Pj}
def MR.nocell(m:cm!)(h:cE_):M p=none:=by
 cases e:M p with
 |none=>rfl
 |some q=>exact absurd h (m.has pP!)
def XM.laid(s:K_)(hp:cE_):XM M G H (Bg M p c) G fm!:=by
 show"#0";refine⟨fm_,λb u e=>by rw[bD (ne (s b u e))];exact s b u e,dr_,λb u e _=>by rw[bD (ne e)];exact e,bo_,bo_⟩
 .by_cases hb:b=p
  .subst hb;exact .inr hp
  .rw[bs_]at h;exact .inl h
 .by_cases hb:b=p
  .subst hb;rw[mup_same];simp
  .rw[bs_];exact h
def MR.laid(m:cm!)(hp:cE_)(s:K_)(h:Hj P w K G fm! p c):MR P w K (Bg M p c) G fm!:=⟨λb q e=>by
 by_cases hb:b=p
 .show"#)";exact⟨s.free hp,h⟩
 .rw[bs_]at e;obtain⟨Y,L⟩:=m.cell b q e;exact zx!⟩
def XM.write(m:cm!)(s:K_)(ha:M a=some c0):XM M G H (Bg M a c) G cX_:=by
 have hG:=(m.cell a c0 ha).1;refine⟨fm_,λb u e=>by rw[bD (cN e hG)];exact s b u e,dr_,λb u e hb=>?_,bo_,bo_⟩
 .have:b≠a:=λz=>by subst z;rw[ha]at hb;cases hb
  rw[bD this];exact e
 .show"#9"
  .subst hb;exact .inl (by rw[ha];simp)
  .rw[bs_]at h;exact .inl h
 .show"#9"
  .subst hb;rw[mup_same];simp
  .rw[bs_];exact h
def MR.write(m:cm!)(ha:M a=some c0)(h:Hj P w K G cX_ a c):MR P w K (Bg M a c) G cX_:=⟨λb q e=>by
 show"#9"
 .show"#)";exact⟨(m.cell _ c0 ha).1,h⟩
 .rw[bs_]at e;obtain⟨Y,L⟩:=m.cell b q e;exact zx!⟩
end
open Classical in
def Gs(kvs:i!)(d:D)(ep:Nat):Nat:=if(dy_).isSome then ep else ep+1
def GI(K:yS!)(G:Hp):Option D->Option Value->Prop
 |some d,some u=>Cw K G d u
 |none,none=>True
 |_,_=>False
section
variable{X:Cx}{h1:List (Addr×Obj)}{Z:St}{G H:Hp}{s:yR!}{M:Mh}{a:x7!}{kvs:List (D×D)}{ep:Nat}{A:x6!}{E:Value->Shared->Prop}{d x:D}{k:MK}{u v:x5!}
def eM(I:d_)(m:bY_)(sub:K_)(e:cn!):∃es,H a=some kR!/\Hz X.prog X.w X.K G kvs es/\Pi s.heap a es ep/\dH!=false/\aj!<=big/\Oy X.prog X.w s.heap es.toArray fI_:=by obtain⟨es,Y,L⟩:=(m.cell a _ e).2;obtain⟨⟨h3,h4,h5⟩,_⟩:=(show Fg X.prog X.w H s.heap a kR! from I.hok a _ Y);exact⟨es,Y,L,h3,h4,h5,L.ents I sub⟩
def a5i{t':Nat}{es ay:ae!}{bd:Nat}(I:d_)(e:H a=some kR!)(D':Pi h' a ay bd)(hs:vr_)(hn:dH!=false)(hl:ay.length<=big):Inv X h1 Z (upd H a (dE a ay bd)) {s with heap:=h',toks:=t'}:=by refine c6r I tv_ hs (let⟨o,h,_⟩:=D';pU!) ⟨⟨D',hn,hl⟩,let⟨o,h,_⟩:=D';pU!,zx_⟩;obtain⟨⟨o,z1,z2,z3⟩,z4⟩:=z;exact pU_
def a5k{Q:fA!}(hu:at!)(I:d_)(m:bY_)(sub:K_)(e:cn!)(r:bX_)(hk:bs!)
  (h:∀o s',Inv X h1 Z H s'->GI X.K G dy_ o->Q o s'):wpAny e_ A (dictGet a u) Q E s:=by
 obtain⟨es,Y,L,h3,h4,h5,h6⟩:=eM I m sub e;refine d3s hu h3 h6 hR! λtk=>h _ _ nb! ?_;obtain⟨i1,i2,i3,i4⟩|⟨j,y,e',i1,i2,i3,i4,i5,i6,i7⟩:=L.look hk
 .rw[i1,i2];exact i2!
 .rw[i1,i4];show GI X.K G (some y) (es[j]?.map (·.val));rw[i3];exact i5
def kput_len:∀(l:i!) (d x:D),(As l d x).length<=av!+1
 |[],_,_=>by simp[As]
 |(y,z)::l,d,x=>by
  unfold As;split
  .simp
  .have:=kput_len l d x;simp only[IE];omega
def c2z{Q:cZ!}(hu:at!)(I:d_)(m:bY_)(sub:K_)(e:cn!)(r:bX_)(hk:bs!)(rv:kW!)(hl:dz!)
  (h:zy_):wpAny e_ A y5_ Q E s:=by
 obtain⟨es,Y,L,h3,h4,h5,h6⟩:=eM I m sub e;have ap:=MQ L.1;refine d3r hu h3 h6 hR! fL! λh' tk D' hs=>?_;have om:=L.put (x:=x) hk r rv;have w9:Yt (Mx fI_ k) ep=Gs kvs d ep:=by
  unfold Gs;obtain⟨i1,i2,i3,i4⟩|⟨j,y,e',i1,i2,i3,i4,i5,i6,i7⟩:=L.look hk
  .rw[i1,i2];simp[Yt]
  .rw[i1,i4];simp[Yt]
 rw[w9]at D';have qj:=MQ om.1;have:=kput_len kvs d x;exact h _ _ (a5i I Y D' hs h4 a!) ⟨_,cC,om⟩
def b2f{Q:q_}(hu:eA!)(I:d_)(m:bY_)(sub:K_)(e:cn!)(r:bX_)(hk:bs!)(J:zz!)
  (h:∀o s',Inv X h1 Z H s'->Cw X.K G x o->Q o s'):wpAny e_ A (getItem ag! u) Q E s:=by
 obtain⟨es,Y,L,h3,h4,h5,h6⟩:=eM I m sub e;have hT:=fL_;unfold getItem;refine JO (HI (wpAny_sequenceKey hT b_ (HI (JZ (name:=uu_) hT PySem.slot_dict_getitem (JP PySem.slot_dict_getitem hT PySem.entry_dict_getitem ?_ (PySem.args_dict_getitem _ _))))));show wpAny e_ A.in1 kX! _ _ s;refine HI kX_;rw[J]at ho;cases o with
 |none=>exact ho.elim
 |some o=>exact HK ⟨o,rfl,HK (h o s' I' ho)⟩
def vC{Q:ev_}(hu:eA!)(I:d_)(m:bY_)(sub:K_)(e:cn!)(r:bX_)(hk:bs!)
  (h:∀s',Inv X h1 Z H s'->Q (dy_).isSome s'):wpAny e_ A (contains ag! u) Q E s:=by
 obtain⟨es,Y,L,h3,h4,h5,h6⟩:=eM I m sub e;have hT:=fL_;unfold contains;refine JO (HI (PQ hT PR.lookup ?_));rw[HP (by rw[beq_builtin_none];exact IN)];refine HI (wpAny_callSpecialUnlessNone?_slot (name:=Str.ofString "__contains__") hT PR (JP PR hT PySem.entry_dict_contains ?_ (PySem.args_dict_contains _ _)));show wpAny e_ A.in1 kX! _ _ s;refine HI kX_;cases o with
 |none=>
  have hn:kget kvs d=none:=by
   cases q:kget kvs d with
   |none=>rfl
   |some y=>rw[q]at ho;exact ho.elim
  have h:=h s' I';rw[hn]at h;exact HI (wpAny_pendingKey_other h4 (HK zA_))
 |some o=>
  have hn:(dy_).isSome=true:=by
   cases q:kget kvs d with
   |none=>rw[q]at ho;exact ho.elim
   |some y=>rfl
  have h:=h s' I';rw[hn]at h;exact HK zA_
def b2e{Q:cZ!}(hu:eA!)(I:d_)(m:bY_)(sub:K_)(e:cn!)(r:bX_)(hk:bs!)(rv:kW!)(hl:dz!)
  (h:zy_):wpAny e_ A (setItem ag! u v) Q E s:=by
 obtain⟨es,Y,L,h3,h4,h5,h6⟩:=eM I m sub e;have hT:=fL_;unfold setItem;refine JO (HI (wpAny_sequenceKey hT b_ (HI (JZ (name:=Str.ofString "__setitem__") hT PySem.slot_dict_setitem (JP PySem.slot_dict_setitem hT PySem.entry_dict_setitem ?_ (PySem.args_dict_setitem _ _ _))))));refine HI (OQ hT ?_);show wpAny e_ A.in1 (dictSet a u v>>=_) _ _ s;exact HI (c2z (A:=A.in1) hu I m sub e r hk rv hl λay s' I' c'=>HK ⟨.none,rfl,HK (h ay s' I' c')⟩)
def c6t{Q:q_}(hu:eA!)(I:d_)(m:bY_)(sub:K_)(e:cn!)(r:bX_)(hk:bs!)
  (h:∀o s',Inv X h1 Z H s'->Cw X.K G ((dy_).getD .non) o->Q o s'):wpAny e_ A (call zB! [d1!,u]) Q E s:=by
 obtain⟨es,Y,L,h3,h4,h5,h6⟩:=eM I m sub e;refine JP OK h3.typeIs PySem.F.entry_dict_get ?_ (PySem.F.args_dict_get_2 _ _);show wpAny e_ A.in1 kX! _ _ s;refine HI kX_;cases q:kget kvs d with
 |none=>
  rw[q]at ho;cases o with
  |none=>
   have h:=h .none s' I';rw[q]at h;exact HI (wpAny_missed_other h4 (HK ⟨.none,rfl,h ⟨V.non,Ax.non,rfl⟩⟩))
  |some o=>exact ho.elim
 |some y=>
  rw[q]at ho;cases o with
  |none=>exact ho.elim
  |some o=>
   have h:=h o s' I';rw[q]at h;exact HK zB_
def c6s{Q:q_}(hu:eA!)(I:d_)(m:bY_)(sub:K_)(e:cn!)(r:bX_)(hk:bs!)(rv:kW!)
  (h:∀o s',Inv X h1 Z H s'->Cw X.K G ((dy_).getD x) o->Q o s'):wpAny e_ A (call zB! [d1!,u,v]) Q E s:=by
 obtain⟨es,Y,L,h3,h4,h5,h6⟩:=eM I m sub e;refine JP OK h3.typeIs PySem.F.entry_dict_get ?_ (PySem.F.args_dict_get_3 _ _ _);show wpAny e_ A.in1 kX! _ _ s;refine HI kX_;cases q:kget kvs d with
 |none=>
  rw[q]at ho;cases o with
  |none=>
   have h:=h v s' I';rw[q]at h;exact HI (wpAny_missed_other h4 (HK ⟨v,rfl,h rv⟩))
  |some o=>exact ho.elim
 |some y=>
  rw[q]at ho;cases o with
  |none=>exact ho.elim
  |some o=>
   have h:=h o s' I';rw[q]at h;exact HK zB_
def zW{Q:q_}(hu:eA!)(I:d_)(m:bY_)(sub:K_)(e:cn!)(r:bX_)(hk:bs!)(rv:kW!)(hl:dz!)
  (hs:∀y o s',kget kvs d=some y->Inv X h1 Z H s'->Cw X.K G y o->Q o s')
  (hn:kget kvs d=none->∀ay s',Inv X h1 Z kY! s'->Hj X.prog X.w X.K G kY! a (.dct pM! bH!)->Q v s'):wpAny e_ A (call (.builtin "dict.setdefault") [d1!,u,v]) Q E s:=by
 obtain⟨es,Y,L,h3,h4,h5,h6⟩:=eM I m sub e;have ap:=MQ L.1;have hT:=fL_;refine JP RN hT PySem.F.entry_dict_setdefault ?_ (PySem.F.args_dict_setdefault_3 _ _ _);unfold Builtin.«dict.setdefault» zC!;refine HI pV!;dsimp only;rw[HP (by rw[h4];exact IN)];obtain⟨i1,i2,i3,i4⟩|⟨j,y,e',i1,i2,i3,i4,i5,i6,i7⟩:=L.look hk
 .refine HI (rN (A:=A.in1) hu h3 h6 hR! fL! (λj e tk q=>by rw[i1]at q;cases q) λh' tk _ D' b6=>HK ⟨_,rfl,hn i2 _ _ zC_ ⟨_,cC,?_⟩⟩)
  .rw[IG,LA];omega
  .have:=L.put (x:=x) hk r rv;rw[i1]at this;exact this
 .exact HI (rN (A:=A.in1) hu h3 h6 hR! fL! (λj' e tk q q2=>by
   rw[i1]at q;cases q;rw[i3]at q2;cases q2;exact HK ⟨_,rfl,hs y _ _ i4 nb! i5⟩) λh' tk q=>by rw[i1]at q;cases q)
def d0t{Q:q_}(hu:eA!)(I:d_)(m:bY_)(sub:K_)(e:cn!)(r:bX_)(hk:bs!)(J:zz!)
  (h:∀ay o s',Inv X h1 Z kY! s'->Hj X.prog X.w X.K G kY! a (.dct (Gv kvs d) bH!)->Cw X.K G x o->Q o s'):wpAny e_ A (call (.builtin "dict.pop") [d1!,u]) Q E s:=by
 obtain⟨es,Y,L,h3,h4,h5,h6⟩:=eM I m sub e;have hT:=fL_;obtain⟨i1,i2,i3,i4⟩|⟨j,y,e',i1,i2,i3,i4,i5,i6,i7⟩:=L.look hk
 .rw[i2]at J;cases J
 .rw[i4]at J;cases J;refine JP PySem.F.slot_dict_pop hT PySem.F.entry_dict_pop ?_ (PySem.F.args_dict_pop_2 _ _);unfold Builtin.«dict.pop» zC!;refine HI pV!;dsimp only;have fin:wpAny e_ A.in1 zc! (λar s'=>∃e o,ar=some e/\e.val=o/\Q o s') E s:=by
   refine d0h (A:=A.in1) hu h3 h6 hR! fL! i1 i3 λh' tk D' b6=>⟨e',_,rfl,rfl,h _ _ _ zC_ ⟨_,cC,?_⟩ i5⟩
   .exact JB (List.length_eraseIdx_le _ _) h5
   .rw[i7];exact L.del
  obtain⟨o,ho,_,hd⟩:=id h3;have b8:es.toArray.isEmpty=false:=by
   cases es with
   |nil=>simp at i3
   |cons _ _=>rfl
  by_cases hp:(keyPart u).isSome=true
  .rw[HY hp];refine HI ac_;rw[HP IN];refine HI zE_;subst q1 q2;exact HI zF!
  .rw[HP hp];refine HI (LX ho hd (HI ac_));rw[b8,HP IN];refine HI zE_;subst q1 q2;exact HI zF!
end
section
variable{X:Cx}{h1:List (Addr×Obj)}{Z:St}{H:Hp}{s:yR!}
def a6v{ds es:c!}{A:x6!}(I:d_)(qa:ki!)(qb:Gf X.K H b ws)(rd:ht!)(re:ht_)(hu:at!)
  (h:kk_):SeqAt.RcNeAt A s ag! d4! (!Jh ds es):=by
 obtain⟨us,rv,p1,_⟩:=I.tuple qa;obtain⟨us',ak,p2,_⟩:=I.tuple qb;have Y:=aL rd;have L:=aL re;have h3:=gq_;have h4:=kl!;have z:=SeqAt.RcNeAt.tuples (A:=A) (e:=kl_) p1 p2 hu km!;have e:xA!=Jh ds es:=by
  show"#2"
  .rw[hl,Nat.min_self,<-hl,km_,hl];simp
  .rw[kn!];have:(h!==aj!)=false:=by simpa using hl
   rw[this,QS]
 rw[e]at z;exact z
def b0s{ds es:c!}{A:x6!}(I:d_)(qa:o6_)(qb:Fz X.K H b ws)(rd:ht!)(re:ht_)(hu:at!)
  (h:kk_):SeqAt.RcNeAt A s ag! d4! (!Jh ds es):=by
 show"!A";have h4:=kl!;by_cases hl:h!=aj!
 .have z:=SeqAt.RcNeAt.lists (A:=A) (e:=kl_) p1.isList p2.isList oB_ hu km!;rw[HS,<-h3,<-Y,km_]at z;exact z
 .rw[kn!];exact SeqAt.RcNeAt.lists_lengths p1.isList p2.isList xA_ hu
def b8u(I:d_){A:x6!}(n:cL!)(n':fv_)(hu:at!)(r:er!)(r':hu!)(ru:bw_)(av:hu_)(hT:∀xs ys,d=.tup xs->d'=.tup ys->SeqAt.RcNeAt A s u u' kZ!)(hL:∀xs ys,d=.lst xs->d'=.lst ys->SeqAt.RcNeAt A s u u' kZ!):SeqAt.RcNeAt A s u u' kZ!:=by
 show"!`"
 all_goals first|exact hT _ _ rfl rfl|exact hL _ _ rfl rfl|(unfold En;(try simp only[PP,LH]);with_reducible first|exact .none_none|exact .same _|exact .none_bool _|exact .none_int _ _|exact .none_str _ _|exact .none_tuple ‹_› hu|exact .none_list ‹_› hu|exact .bool_none _|exact .bool_bool _ _|exact .bool_int _ _ _|exact .bool_str _ _ _|exact .bool_tuple _ ‹_› hu|exact .bool_list _ ‹_› hu|exact .int_none _ _|exact .int_bool _ _ _|exact .int_int _ _ _ _|exact .int_str _ _ _ _|exact .int_tuple _ _ ‹_› hu|exact .int_list _ _ ‹_› hu|exact .str_none _ _|exact .str_bool _ _ _|exact .str_int _ _ _ _|exact .str_str _ _ _ _|exact .str_tuple _ _ ‹_› hu|exact .str_list _ _ ‹_› hu|exact .tuple_none ‹_› hu|exact .tuple_bool _ ‹_› hu|exact .tuple_int _ _ ‹_› hu|exact .tuple_str _ _ ‹_› hu|exact .tuple_list ‹_› ‹_› hu|exact .list_none ‹_› hu|exact .list_bool _ ‹_› hu|exact .list_int _ _ ‹_› hu|exact .list_str _ _ ‹_› hu|exact .list_tuple ‹_› ‹_› hu)
def b8v(I:d_)(d d':D){A:x6!}(n:cL!)(n':fv_)(hu:xB_)(r:er!)(r':hu!)(ru:bw_)(av:hu_):SeqAt.RcNeAt A s u u' kZ!:=
 b8u I n n' a! r r' ru av (λxs ys e e'=>by
  subst e e';obtain⟨a,vs,rfl,q,rr⟩:=bS r;obtain⟨b,ws,rfl,q',b7⟩:=bS r';cases ru;cases av;unfold Bi at n n';unfold Il at hu;unfold En;exact a6v I q q' rr b7 a! λus us' rv ak=>lG I xs ys A.in1 vs ws us us' n n' fw! rr b7 rv ak) (λxs ys e e'=>by
  subst e e';obtain⟨a,vs,rfl,q,rr⟩:=bT r;obtain⟨b,ws,rfl,q',b7⟩:=bT r';cases ru;cases av;unfold Bi at n n';unfold Il at hu;unfold En;exact b0s I q q' rr b7 a! λus us' rv ak=>lG I xs ys A.in1 vs ws us us' n n' fw! rr b7 rv ak)
def AE(K:yS!):R2:=λx y H Q=>∃dx dy,Ax K H dx x/\Ax K H dy y/\Bi dx=true/\Bi dy=true/\Il dx<=40/\Q (.bl (!En dx dy)) H
def fI(hu:aL!):Gx X sO! (AE X.K):=by intro h1 s Z H x y v u Q I rx ry h;obtain⟨dx,dy,r1,r2,n1,n2,hd,q⟩:=h;exact b8v I dx dy n1 n2 a! r1 r2 rx ry X.prog X.w X.xe _ kn_
def Eg:D->D->Option D:=λx y=>if Bi x&&Bi y&&decide (Il x<=40)then some (.bl (!En x y))else none
def tH{K:yS!}:Im K (AE K) Eg:=by
 show"!0";unfold Eg at e;show"!6"
 .show"!u";cases e;exact xC_
 .cases e
open Classical in
def Uy(K:yS!)(H:Hp)(x:D)(u:x5!):Bool:=decide (∃d,Cw K H d u/\Bi d=true/\En d x=true)
open Classical in
def c2i(I:d_)(r:Cw X.K H d u)(n:cL!):Uy X.K H x u=En d x:=by
 unfold Uy;cases h:En d x with
 |true=>exact IV ⟨d,r,n,h⟩
 |false=>
  refine IF ?_;rintro⟨d',⟨v',r',av⟩,n',h'⟩;obtain⟨v,r,ru⟩:=r;have:=ru.inj av;subst this;rw[a3a I d d' v n n' r r']at h;rw[h]at h';cases h'
def rY(I:d_):∀{ds:c!} {vs:n_} {us:i_},An X.K H ds vs->Bc vs us->By ds=true->us.any (Uy X.K H x)=ds.any λd=>En d x
 |[],vs,us,r,rv,_=>by cases cS r;cases rv;rfl
 |d::ds,vs,us,r,rv,n=>by
  obtain⟨v,t,rfl,r1,r2⟩:=bR r;unfold By at n;rw[IZ]at n;cases rv with
  |cons qf ua=>rw[MC,MC,c2i I ⟨v,r1,qf⟩ n.1,rY I r2 ua n.2]
def qO(I:d_){A:x6!}(rx:Ax X.K H x y)(ry:Bu y v)(nx:Bi x=true):∀{ds:c!} {vs:n_} {us:i_},An X.K H ds vs->Bc vs us->By ds=true->A.units+Dq ds<cLine->∀u∈us,SeqAt.EqAt A s u v (Uy X.K H x u)
 |[],vs,us,r,rv,_,_=>λu hu=>by cases cS r;cases rv;cases hu
 |d::ds,vs,us,r,rv,n,hd=>λu hu=>by
  obtain⟨z,t,rfl,r1,r2⟩:=bR r;unfold By at n;rw[IZ]at n;unfold Dq at hd;cases rv with
  |cons qf ua=>
   obtain rfl|hu:=HN.mp hu
   .rw[c2i I ⟨z,r1,qf⟩ n.1];exact c2l I d x A z y _ _ n.1 nx a! r1 rx qf ry
   .exact qO I rx ry nx r2 ua n.2 a! u hu
def AH(K:yS!)(neg:Bool):R2:=λx y H Q=>∃p ys dx ds,y=.ref p/\pY!/\Ax K H dx x/\An K H ds ys/\Bi dx=true/\By ds=true/\Dq ds<=40/\Q (.bl (if neg then !(ds.any λd=>En d dx)else ds.any λd=>En d dx)) H
def c9c(hu:aL!):Gx X jp_ (AH X.K false):=by
 intro h1 s Z H x y v u Q I rx ry h;obtain⟨p,ys,dx,ds,rfl,hq,r1,r2,n1,n2,hd,q⟩:=h;cases ry;obtain hq|hq:=hq
 .show"!P";refine SeqAt.in_listAt fM! pl.isList k0! fc!;rw[k0_,k1!];exact q
 .show"!{";refine SeqAt.in_tupleAt fM! pl k0! fc!;rw[k0_,k1!];exact q
def b6m(hu:aL!):Gx X pY_ (AH X.K true):=by
 intro h1 s Z H x y v u Q I rx ry h;obtain⟨p,ys,dx,ds,rfl,hq,r1,r2,n1,n2,hd,q⟩:=h;cases ry;obtain hq|hq:=hq
 .show"!P";refine SeqAt.notIn_listAt fM! pl.isList k0! fc!;rw[k0_,k1!];exact q
 .show"!{";refine SeqAt.notIn_tupleAt fM! pl k0! fc!;rw[k0_,k1!];exact q
def AI(P:yp!)(w:xV!)(K:yS!)(neg:Bool):R2:=λx y H Q=>∃(M:Mh) (G:Hp) (a:x7!) (kvs:i!) (ep:Nat) (d:D) (k:MK),y=.ref a/\Bk G H/\MR P w K M G H/\M a=some hQ_/\Ax K G d x/\Db d=some k/\Q (.bl (if neg then !(dy_).isSome else(dy_).isSome)) H
def c9d(hu:aL!):Gx X jp_ (AI X.prog X.w X.K false):=by intro h1 s Z H x y v u Q I rx ry h;obtain⟨M,G,a,kvs,ep,d,k,rfl,sub,m,e,r,hk,q⟩:=h;cases ry;exact HI zI!
def b6n(hu:aL!):Gx X pY_ (AI X.prog X.w X.K true):=by intro h1 s Z H x y v u Q I rx ry h;obtain⟨M,G,a,kvs,ep,d,k,rfl,sub,m,e,r,hk,q⟩:=h;cases ry;exact HI zI!
def Ym(P:yp!)(w:xV!)(K:yS!)(neg:Bool):R2:=λx y H Q=>AH K neg x y H Q\/AI P w K neg x y H Q
def iC(hu:aL!):Gx X jp_ (Ym X.prog X.w X.K false):=(c9c hu).or (c9d hu)
def iM(hu:aL!):Gx X pY_ (Ym X.prog X.w X.K true):=(b6m hu).or (b6n hu)
def Su(M:Mh):D->Option aR_
 |.lst xs=>some xs
 |.tup xs=>some xs
 |.fn a=>match M a with|some (.lst xs)=>some xs|_=>none
 |_=>none
def a2m{K:yS!}{M:Mh}{G H:Hp}(sub:K_)(m:cm!)(r:cF_)(e:Su M d=some xs):∃p ys,v=.ref p/\pY!/\An K G xs ys:=by
 cases d<;>first|(cases e;done)|skip
 .cases e;show"!X";exact⟨p,vs,rfl,.inr ko!,rr⟩
 .cases e;obtain⟨p,vs,rfl,q,rr⟩:=bT r;exact⟨p,vs,rfl,.inl (sub.seq q),rr⟩
 .rename_i a;cases gD r;simp only[Su]at e;show"!6"
  .rename_i ys hy;cases e;obtain⟨_,vs,Y,L⟩:=m.cell a _ hy;exact⟨a,vs,rfl,.inl (Fz.of Y),L⟩
  .cases e
def Ib(neg:Bool)(M:Mh)(x y:D):Option D:=match y with
 |.fn a=>match M a with
  |some (.dct kvs _)=>(Db x).bind λ_=>some (.bl (if neg then !(kget kvs x).isSome else(kget kvs x).isSome))
  |_=>inS M x y
 |_=>inS M x y
where inS (M:Mh) (x y:D):Option D:=(Su M y).bind λds=>if Bi x&&By ds&&decide (Dq ds<=40)then some xF_ else none
def eR{K:yS!}{neg:Bool}:Yf P w K (Ym P w K neg) (Ib neg):=by
 intro x y dx dy d M G H Q sub m rx ry e k;have seq:Ib.inS neg M dx dy=some d->Ym P w K neg x y H Q:=λe=>by
  obtain⟨ds,e1,e2⟩:=HJ.mp e;split at e2
  .show"!u";cases e2;obtain⟨p,ys,rfl,q,rr⟩:=a2m sub m ry e1;exact .inl ⟨p,ys,dx,ds,rfl,q,rx.mono sub,rr.mono sub,h.1.1,h.1.2,h.2,ep_⟩
  .cases e2
 unfold Ib at e;show"!6"
 .rename_i a;show"!6"
  .show"#=";cases e2;cases gD ry;exact .inr ⟨M,G,a,kvs,ep,dx,kk,rfl,sub,m,hM,rx,e1,ep_⟩
  .exact seq e
 .exact seq e
def BY(P:yp!)(w:xV!)(K:yS!):R2:=λx y H Q=>∃(M:Mh) (G:Hp) (a:x7!) (kvs:i!) (ep:Nat) (d z:D) (k:MK),x=.ref a/\Bk G H/\MR P w K M G H/\M a=some hQ_/\Ax K G d y/\Db d=some k/\kget kvs d=some z/\∀v,Ax K G z v->Q v H
def c9z(hu:aL!):Ws X (BY X.prog X.w X.K):=by
 intro value gd h1 s Z H x y v u Q I rx ry h hs;obtain⟨M,G,a,kvs,ep,d,z,k,rfl,sub,m,e,r,hk,hz,q⟩:=h;cases rx;obtain⟨es,Y,L,h3,h4,h5,h6⟩:=eM I m sub e;unfold subscriptTail;refine HI ?_;rw[getitemInPython_of_ne h3.typeIs.not_modules];refine HI (PQ h3.typeIs PySem.F.slot_dict_getitem.lookup ?_);have fin:wpAny e_ X.A (subscripted gd false ag! u) (λr dz=>wpAny e_ X.A (letTemporaryGo value ag! r>>=λ_=>pure r) aM! X.xe dz) X.xe s:=by
  rw[hs];exact wpAny_operating (b2f (A:=X.A) a! I m sub e ⟨_,r,ry⟩ hk hz λo s' I' ⟨v',r',av⟩=>HI (wpAny_letTemporaryGo (HK ⟨v',H,I',av,q v' r'⟩)))
 first
  |exact HK ju_
  |exact HI (HK ju_)
  |exact HI fin
def BZ(P:yp!)(w:xV!)(K:yS!):R2:=λx y H Q=>EV K x y H Q\/BY P w K x y H Q
def bI(hu:aL!):Ws X (BZ X.prog X.w X.K):=aH.or (c9z hu)
def Bt(M:Mh)(x y:D):Option D:=match x with
 |.fn a=>match M a with
  |some (.dct kvs _)=>(fN!).bind λ_=>kget kvs y
  |some (.lst xs)=>match y with|.int i=>Dc xs i|_=>none
  |_=>none
 |_=>Ak x y
def bH{K:yS!}:Yf P w K (BZ P w K) Bt:=by
 show"!_";unfold Bt at e;show"!6"
 .rename_i a;cases gD rx;show"!6"
  .show"#=";exact .inr ⟨M,G,a,kvs,ep,dy,d,kk,rfl,sub,m,hM,ry,e1,e2,λv r=>k v G H aT! r⟩
  .rename_i xs hM;show"!6"
   .rename_i i;cases bG ry;show"!}";obtain⟨v,e6,r6⟩:=qB L e;exact .inl (.inl ⟨a,vs,i,v,rfl,rfl,Fz.of Y,e6,k v G H aT! r6⟩)
   .cases e
  .cases e
 .exact .inl (aM sub rx ry e k)
def Mi(M:Mh)(x y:D):Option D:=match x with
 |.fn a=>match M a,y with
  |some (.lst xs),.lst ys=>if m_+ad!<=big then some (.lst eK_)else none
  |_,_=>none
 |_=>Ao x y
def jF{K:yS!}:Yf P w K (Sx K) Mi:=by
 show"!_";unfold Mi at e;show"!6"
 .rename_i a;cases gD rx;show"!6"
  .rename_i xs ys hM;show"!6"
   .show"!F";show"!}";obtain⟨b,ws,rfl,qb,rb⟩:=bT ry;exact .inr (.inr (.inr (.inr ⟨a,b,vs,ws,rfl,rfl,Fz.of Y,sub.seq qb,by rw[<-aL L,<-aL rb];exact cY hl,λp hp=>k _ _ _ j6! (dR hk! (dG L rb))⟩)))
   .cases e
  .cases e
 .exact bO sub rx ry e k
end
def Dz{α:Type}(o:Option α)(R:p1!):Prop:=match o with|some a=>R a|none=>False
def dB{α:Type}{o:Option α}{R:p1!}(h:Dz o R):∃a,o=some a/\R a:=by
 cases o with
 |none=>exact h.elim
 |some a=>exact⟨a,rfl,h⟩
def Gw(C:x7!)(x:Str)(M:Mh)(d:D):Option D:=match d with
 |.fn a=>match M a with
  |some (.obj C' fs)=>if C'=C then fs.lookup x else none
  |_=>none
 |_=>none
def Bq(f:Str)(v:D):List ci!->List ci!
 |[]=>[(f,v)]
 |(g,x)::r=>if g=f then(g,v)::r else(g,x)::Bq f v r
def a8t{K:yS!}{G:Hp}{x:Str}:∀{fs:aV!} {vs:eL!},Ox K G fs vs->fs.lookup x=some d->∃v,vs.lookup x=some v/\Ax K G d v
 |_,_,.nil,e=>by simp at e
 |(a,b)::r,(a',b')::r',.cons ⟨Y,L⟩ t,e=>by
  have Y:a=a':=Y;subst Y;cases J:(x==a)with
  |true=>
   simp only[JR,J]at e ⊢;cases e;exact⟨b',rfl,L⟩
  |false=>
   simp only[JR,J]at e ⊢;exact a8t t e
def a8s{K:yS!}{G:Hp}{x:Str}:∀{fs:aV!} {vs:eL!},Ox K G fs vs->fs.lookup x=none->vs.lookup x=none
 |_,_,.nil,_=>rfl
 |(a,b)::r,(a',b')::r',.cons ⟨Y,L⟩ t,e=>by
  have Y:a=a':=Y;subst Y;cases J:(x==a)with
  |true=>simp only[JR,J]at e;cases e
  |false=>
   simp only[JR,J]at e ⊢;exact a8s t e
def b4v{K:yS!}{G:Hp}{x:Str}(r:cF_):∀{fs:aV!} {vs:eL!},Ox K G fs vs->Ox K G (Bq x d fs) (Li x v vs)
 |_,_,.nil=>.cons ⟨rfl,r⟩ .nil
 |(a,b)::fs,(a',b')::vs,.cons ⟨Y,L⟩ t=>by
  have Y:a=a':=Y;subst Y;show Ox K G (if a=x then(a,d)::fs else ab!::Bq x d fs) (if a=x then(a,v)::vs else(a,b')::Li x v vs);by_cases e:a=x
  .rw[HY e,HY e];exact .cons ⟨rfl,r⟩ t
  .rw[HP e,HP e];exact .cons ⟨rfl,L⟩ (b4v r t)
section
variable{X:Cx}{own:List Nat}{e o a b:Expr}{es:List Expr}{pos aj ah p:Pos}{f fa fb fo:WE}{fs:WA}{x m:Str}{C:x7!}
def Ay(C:x7!)(x:Str)(f:WE):WE:=λρ M R=>f ρ M λd M1=>Dz (Gw C x M1 d) λv=>R v M1
def bF(c:d0_)(n:Ef X.K C x)(h:bY!)(hb:attributeBase e x X.env eO_=eval e X.env:=by rfl):ME X own (.Attribute e x pos) (Ay C x f):=
 fB (c8x h.ok hb) λZ G H Q ρ M R st e k=>⟨G,ρ,M,_,st,e,λd M1 v G1 H1 r1 x1 m1 q1=>by
  obtain⟨z,Y,L⟩:=dB r1;cases d<;>first|(cases Y;done)|skip
  rename_i ad;cases gD q1;simp only[Gw]at Y;split at Y
  .rename_i C' fs hM;split at Y
   .rename_i hC;subst hC;obtain⟨_,dx,vs,h3,h4⟩:=m1.cell ad _ hM;obtain⟨u,h5,h6⟩:=a8t h4 Y;exact⟨ad,_,dx,vs,u,rfl,h3,c,n,h5,k z M1 u G1 H1 L x1 m1 h6⟩
   .cases Y
  .cases Y⟩
def So(P:yp!)(w:xV!)(K:yS!)(r:dU!)(g:hS_):Prop:=∀{vs:n_} {ds:c!} {d:D} {M:Mh} {G H:Hp} {Q:VK},Bk G H->MR P w K M G H->An K G ds vs->g M ds=some d->jX!->r vs H Q
nonrec def w1(g:hS_)(fs:WA):WE:=λρ M R=>fs ρ M λds M1=>Dz (g M1 ds) λd=>R d M1
def xU{id:String}{r:dU!}{g:hS_}(hc:nq!)(hd:zN!)(hg:Y_)(hm:c3_)(hv:np_)(ha:hT!)(hn:c4!:=by decide)
  (bg:F_:=by decide)(he:az!:=by rfl)(a7:a6_:=by rfl):ME X own bB_ (w1 g fs):=
 fB wN! λZ G H Q ρ M R st e' k=>⟨G,ρ,M,_,st,e',λds M1 vs G1 H1 r1 x1 m1 q1=>by
  obtain⟨d,Y,L⟩:=dB r1;exact hd x1.sub m1 q1 Y λv G2 H2 x2 q2=>k d M1 v G2 H2 L zN_ (m1.ext x2) q2⟩
def tN{T:String}{r:dU!}{g:hS_}(hc:Kj X d3_ r)(hd:zN!)(hg:Y_)(hm:c3_)(hv:nq_)(ha:hT!)(hn:c4!:=by decide)
  (bg:F_:=by decide)(he:az!:=by rfl)(a7:a6_:=by rfl):ME X own bB_ (w1 g fs):=
 fB (b6l hc hg hm hv ha.ok hn bg he a7) λZ G H Q ρ M R st e' k=>⟨G,ρ,M,_,st,e',λds M1 vs G1 H1 r1 x1 m1 q1=>by
  obtain⟨d,Y,L⟩:=dB r1;exact hd x1.sub m1 q1 Y λv G2 H2 x2 q2=>k d M1 v G2 H2 L zN_ (m1.ext x2) q2⟩
def Wo(M:Mh):List D->Option D
 |[.str x]=>Bp [.str x]
 |[d]=>(Su M d).map λxs=>.int m_
 |_=>none
def c3d{K:yS!}:So P w K w6_ Wo:=by
 show"!T";unfold Wo at e;show"!6"
 .exact eJ sub r e k
 .obtain⟨xs,e1,rfl⟩:=HU.mp e;show"!n";refine⟨fv!,m_,rfl,?_,em_⟩;rw[aL rr];exact q.elim (λz=>.inl zO!) λz=>.inr zO!
 .cases e
def Wa(M:Mh):List D->Option D
 |[d]=>(Su M d).bind λxs=>if m_<=big then some T! else none
 |_=>none
def c6v{K:yS!}:So P w K (λxs H Q=>∃p ys,xs=gS_/\pY!/\∀l,H l=none->Q jr! jq!) Wa:=by
 show"!T";unfold Wa at e;show"!6"
 .obtain⟨xs,e1,e2⟩:=HJ.mp e;split at e2
  .cases e2;show"!n";exact⟨p,ys,rfl,q,λl hl=>k _ _ _ zO_ (dR (sub.free hl) rr)⟩
  .cases e2
 .cases e
def Qk(fs:WA):WE:=λρ M R=>fs ρ M λds M1=>h!<=1000/\∀p,M1 p=none->R E! (Bg M1 p cd!)
def a3u(h:hP!):ME X own i5! (Qk fs):=
 fB j1_ λZ G H Q ρ M R st e k=>⟨G,ρ,M,_,st,e,λds M1 vs G1 H1 r1 x1 m1 q1=>⟨by rw[<-aL q1];exact gJ r1.1,λp hp=>
  k _ _ _ _ _ (r1.2 p (m1.nocell hp)) (x1.trans (.laid x1.sub hp) m1) (m1.laid hp x1.sub ⟨vs,cC,q1⟩) Ax.fn⟩⟩
def Os(M:Mh)(d:D):Option (Addr×List D):=match d with
 |.fn p=>match M p with|some (.lst xs)=>some (p,xs)|_=>none
 |_=>none
def yY{K:yS!}{M:Mh}{G H:Hp}{q:Addr×List D}(m:cm!)(r:cF_)(e:Os M d=some q):d=.fn q.1/\v=.ref q.1/\M q.1=some (.lst q.2)/\∃vs,H q.1=some dm_/\An K G q.2 vs:=by
 cases d<;>first|(cases e;done)|skip
 rename_i p;cases gD r;simp only[Os]at e;show"!6"
 .rename_i xs hM;cases e;exact⟨rfl,rfl,hM,(m.cell p _ hM).2⟩
 .cases e
def Ee(M:Mh)(d:D):Option (Addr×List aD_×Nat):=match d with
 |.fn p=>match M p with|some (.dct kvs ep)=>some k4!|_=>none
 |_=>none
def cM{K:yS!}{M:Mh}{G:Hp}{q:zP_}(r:cF_)(e:Ee M d=some q):d=.fn q.1/\v=.ref q.1/\M q.1=some p5!:=by
 cases d<;>first|(cases e;done)|skip
 rename_i p;cases gD r;simp only[Ee]at e;show"!6"
 .rename_i xs ep hM;cases e;exact⟨rfl,rfl,hM⟩
 .cases e
def Vq(fo fa:WE):WE:=λρ M R=>fo ρ M λd M1=>Dz (Os M1 d) λ_=>fa ρ M1 λv M2=>Dz (Os M2 d) λq=>p5_<big/\R .non zQ_
def b4k(ho:cQ!)(ha:aE!)(b9:kb!:=by rfl)(g7:((pe!).all cA!&&(cA_).all cB!
   &&decide pe_)=true:=by rfl) (g8:d7_:=by rfl)
  (gw:attributeBase o "append" X.env dQ!=eval o X.env:=by rfl) (g9:hr_:=by rfl):ME X own (.Call (.Attribute o "append" aj) [a] [] ah) (Vq fo fa):=
 fB (a0m NZ PySem.F.slot_list_append PySem.F.type_list_append a0w ho.ok (dZ ha.ok gQ b9) gw g7 g8 b9 g9) λZ G H Q ρ M R st e k=>
  ⟨G,ρ,M,_,st,e,λd M1 v G1 H1 r1 x1 m1 q1=>by
   obtain⟨c1,e1,r1⟩:=dB r1;obtain⟨rfl,rfl,_,ZX,hH,_⟩:=yY m1 q1 e1;refine⟨.inl ⟨rfl,ZX,Fz.of hH⟩,G1,ρ,M1,_,kV!,r1,λz M2 u G2 H2 r2 x2 m2 q2=>?_⟩;obtain⟨⟨p2,xs2⟩,e2,r2⟩:=dB r2;obtain⟨z1,z2,z3,vs,Y,L⟩:=yY m2 cm_ e2;cases z2;refine⟨_,vs,u,rfl,rfl,Y,by rw[<-aL L];exact IT r2.1 (cY y!),?_⟩;exact k _ _ _ _ _ r2.2 ((cO_).trans (.write m2 x2.sub z3) m2) (m2.write z3 ⟨_,cC,dG L (An.cons q2 An.nil)⟩) Ax.non⟩
def lL{h1:o!}{Z:St}{G H:Hp}{s:yR!}{M:Mh}{q:zP_}(I:d_)(m:bY_)(sub:K_)(e:M q.1=some p5!):
  s.TypeIs (.ref q.1) "dict"/\∀b,Value.ref q.1=.ref b->∃ob,s.heap.get? b=some ob/\ob.dict=none:=by
 obtain⟨es,_,_,h3,_⟩:=eM I m sub e;refine⟨fL_,λb z=>?_⟩;cases z;obtain⟨o,h,hc,_⟩:=h3;exact⟨o,h,hc.2.1⟩
def ME.run{h1:o!}{Z:St}{G H:Hp}{ρ:Ae}{M:Mh}{R:s_}{Q:q_}(h:bY!)(I:d_)(st:zs!)(hf:hO!)
  (k:∀d M' v G' H' u s',R d M'->XM M G H M' G' H'->MR X.prog X.w X.K M' G' H'->Ax X.K G' d v->Inv X h1 Z H' s'->Bu v u->Q u s'):wpAny e_ X.A eO_ Q X.xe s:=
 dM (h.ok h1 s Z H (λv H'=>∃d M' G',R d M'/\XM M G H M' G' H'/\MR X.prog X.w X.K M' G' H'/\Ax X.K G' d v) I ⟨G,ρ,M,R,st,hf,λd M' v G' H' r x m q=>⟨d,M',G',r,x,m,q⟩⟩) λu s' ⟨v,H',I',rv,d,M',G',r,x,m,q⟩=>k d M' v G' H' u s' r x m q I' rv
def Oz(fo fa:WE):WE:=λρ M R=>fo ρ M λd M1=>Dz hV! λ_=>fa ρ M1 λy M2=>Dz (Ee M2 d) λq=>Dz fN! λ_=>R ((p6!).getD .non) M2
def c1b(hu:aL!)(ho:cQ!)(ha:aE!)(m:M1 X o "get" aj a ah):ME X own (.Call zS! [a] [] ah) (Oz fo fa):=⟨by
 intro h1 s Z H Q I ⟨G,ρ,M,R,st,e,k⟩;refine QK m.base m.few m.line OA OK PySem.F.type_dict_get k5!;obtain⟨c1,e1,r1⟩:=dB r1;obtain⟨rfl,rfl,hM⟩:=cM q1 e1;cases rx;obtain⟨t1,t2⟩:=lL I1 m1 x1.sub hM;refine k5_;rw[m.trees];refine NK rfl zS_;obtain⟨⟨p2,zn,ug⟩,e2,r2⟩:=dB r2;obtain⟨kk,e3,r2⟩:=dB r2;obtain⟨z1,z2,f8⟩:=cM cm_ e2;cases z1;exact c6t (A:=X.A) a! I2 m2 x2.sub f8 zT! e3 λov s' I' ⟨v',r',av⟩=>⟨v',H2,I',av,k _ M2 v' G2 H2 r2 cO_ m2 r'⟩⟩
def Hc(fo fa fb:WE):WE:=λρ M R=>fo ρ M λd M1=>Dz hV! λ_=>fa ρ M1 λy M2=>fb ρ M2 λz M3=>Dz (Ee M3 d) λq=>Dz fN! λ_=>R ((p6!).getD z) M3
def qQ(hu:aL!)(ho:cQ!)(ha:aE!)(hb:cP!)(m:M2 X o "get" aj a b ah):ME X own (.Call zS! aq! [] ah) (Hc fo fa fb):=⟨by
 intro h1 s Z H Q I ⟨G,ρ,M,R,st,e,k⟩;refine QK m.base m.few m.line OA OK PySem.F.type_dict_get k5!;obtain⟨c1,e1,r1⟩:=dB r1;obtain⟨rfl,rfl,hM⟩:=cM q1 e1;cases rx;obtain⟨t1,t2⟩:=lL I1 m1 x1.sub hM;refine k5_;rw[m.trees];refine NK rfl (NX (ML (ha.run I1 fO_ r1 λy M2 yv G2 H2 iv s2 r2 x2 m2 q2 I2 ry=>
  ML zU_)))
 obtain⟨⟨p2,zn,ug⟩,e2,r3⟩:=dB r3;obtain⟨kk,e3,r3⟩:=dB r3;obtain⟨z1,z2,f8⟩:=cM zV! e2;cases z1;exact c6s (A:=X.A) a! I3 m3 x3.sub f8 zV_ e3 zX! λov s' I' ⟨v',r',av⟩=>⟨v',H3,I',av,k _ M3 v' G3 H3 r3 p8! m3 r'⟩⟩
def Jj(fo fa fb:WE):WE:=λρ M R=>fo ρ M λd M1=>Dz hV! λ_=>fa ρ M1 λy M2=>fb ρ M2 λz M3=>Dz (Ee M3 d) λq=>Dz fN! λ_=>q.2.1.length<big/\
 match kget q.2.1 y with
 |some v=>R v M3
 |none=>R z (Bg M3 q.1 (.dct (As q.2.1 y z) (q.2.2+1)))
def a0x(hu:aL!)(ho:cQ!)(ha:aE!)(hb:cP!)(m:M2 X o "setdefault" aj a b ah):ME X own (.Call (.Attribute o "setdefault" aj) aq! [] ah) (Jj fo fa fb):=⟨by
 intro h1 s Z H Q I ⟨G,ρ,M,R,st,e,k⟩;refine QK m.base m.few m.line OA RN PySem.F.type_dict_setdefault k5!;obtain⟨c1,e1,r1⟩:=dB r1;obtain⟨rfl,rfl,hM⟩:=cM q1 e1;cases rx;obtain⟨t1,t2⟩:=lL I1 m1 x1.sub hM;refine k5_;rw[m.trees];refine NK rfl (NX (ML (ha.run I1 fO_ r1 λy M2 yv G2 H2 iv s2 r2 x2 m2 q2 I2 ry=>
  ML zU_)))
 obtain⟨⟨p2,zn,ug⟩,e2,r3⟩:=dB r3;obtain⟨kk,e3,hl,r3⟩:=dB r3;obtain⟨z1,z2,f8⟩:=cM zV! e2;cases z1;have ll:=(cO_).trans x3 m2;refine zW (A:=X.A) a! I3 m3 x3.sub f8 zV_ e3 zX! hl (λw ov s' hw I' ⟨v',r',av⟩=>?_) λhn ay s' I' c'=>?_
 .dsimp only at r3;rw[hw]at r3;exact⟨v',H3,I',av,k _ M3 v' G3 H3 r3 ll m3 r'⟩
 .dsimp only at r3;rw[hn]at r3;exact⟨zv,_,I',rz,k _ _ zv G3 _ r3 (ll.trans (.write m3 x3.sub f8) m3) (m3.write f8 c') q3⟩⟩
def Yh(fo fa:WE):WE:=λρ M R=>fo ρ M λd M1=>Dz hV! λ_=>fa ρ M1 λy M2=>Dz (Ee M2 d) λq=>Dz fN! λ_=>Dz p6! λv=>R v (Bg M2 q.1 (.dct (Gv q.2.1 y) (q.2.2+1)))
def c0z(hu:aL!)(ho:cQ!)(ha:aE!)(m:M1 X o "pop" aj a ah):ME X own (.Call (.Attribute o "pop" aj) [a] [] ah) (Yh fo fa):=⟨by
 intro h1 s Z H Q I ⟨G,ρ,M,R,st,e,k⟩;refine QK m.base m.few m.line OA PySem.F.slot_dict_pop PySem.F.type_dict_pop k5!;obtain⟨c1,e1,r1⟩:=dB r1;obtain⟨rfl,rfl,hM⟩:=cM q1 e1;cases rx;obtain⟨t1,t2⟩:=lL I1 m1 x1.sub hM;refine k5_;rw[m.trees];refine NK rfl zS_;obtain⟨⟨p2,zn,ug⟩,e2,r2⟩:=dB r2;obtain⟨kk,e3,r2⟩:=dB r2;obtain⟨w,e4,r2⟩:=dB r2;obtain⟨z1,z2,f8⟩:=cM cm_ e2;cases z1;exact d0t (A:=X.A) a! I2 m2 x2.sub f8 zT! e3 e4 λay ov s' I' c' ⟨v',r',av⟩=>⟨v',_,I',av,k _ _ v' G2 _ r2 ((cO_).trans (.write m2 x2.sub f8) m2) (m2.write f8 c') r'⟩⟩
def Gy:WE:=λρ M R=>∀p,M p=none->R E! eB!
def fP:ME X own (.Dict [] [] pos) Gy:=⟨by
 intro h1 s Z H Q I ⟨G,ρ,M,R,st,e,k⟩;have hp:H o_=none:=I.fresh;have D0:Pi zY_ s.heap.objs.size [] 0:=zZ!;refine wpAny_Dict_empty ⟨de_,upd H s.heap.objs.size zZ_,z0!,rfl,?_⟩
 .obtain⟨⟨o,z1,z2,z3⟩,z4⟩:=z;exact pU_
 .exact k _ _ _ G _ (e _ (st.mr.nocell hp)) (.laid st.or.sub hp) (st.mr.laid hp st.or.sub z0_) Ax.fn⟩
end
abbrev WP:=Ae->Mh->(List aD_->Mh->Prop)->Prop
def Zv(K:yS!)(G:Hp):List aD_->List p8_->Prop:=Paired λp q=>Cw K G p.1 q.1/\Cw K G p.2 q.2
structure MP(X:Cx)(own:l!)(pos:Pos)(keys:List (Option Expr))(jq:bK!)(f:WP):Prop where
 ok:∀(h1:o!) (s:yR!) (Z:St) (G H:Hp) (ρ:Ae) (M:Mh) (R:z1!) (Q:List p8_->Shared->Prop),Inv X h1 Z H s->Tl X.prog X.w X.K own G H Z ρ M->f ρ M R->
  (∀kvs M' G' H' us s',R kvs M'->XM M G H M' G' H'->MR X.prog X.w X.K M' G' H'->Zv X.K G' kvs us->Inv X h1 Z H' s'->Q us s')->wpAny e_ X.A (evalPairs (pairTrees keys jq X.env pos)) Q X.xe s
section
variable{X:Cx}{own:List Nat}{e o a b:Expr}{es:List Expr}{pos aj ah p:Pos}{f fa fb fo:WE}{fs:WA}{fp:WP}{keys:List (Option Expr)}{jq:List Expr}
def Ny:WP:=λ_ M R=>R [] M
def Ek(fa fb:WE)(fp:WP):WP:=λρ M R=>fa ρ M λx M1=>fb ρ M1 λy M2=>fp ρ M2 λkvs M3=>R ((x,y)::kvs) M3
def xQ:MP X own pos [] [] Ny:=⟨λh1 s Z G H ρ M R Q I st e k=>pairTrees_nil_walk (k [] M G H [] s e pS! st.mr .nil I)⟩
def iK(ha:aE!)(hb:cP!)(hp:z1_):MP X own pos (some a::keys) (b::jq) (Ek fa fb fp):=⟨λh1 s Z G H ρ M R Q I st e k=>
 pairTrees_cons_walk (ha.run I st e λx M1 v G1 H1 u s1 r1 x1 m1 q1 I1 ru=>hb.run I1 fO_ r1 λy M2 v2 G2 H2 u2 s2 r2 x2 m2 q2 I2 ZY=>
  hp.ok h1 s2 Z G2 H2 ρ M2 _ _ I2 zU! r2 λkvs M3 G3 H3 us s3 r3 x3 m3 q3 I3=>
   k _ M3 G3 H3 _ s3 r3 p8! m3 (.cons ⟨⟨v,(cm_).mono x3.g,ru⟩,⟨v2,q2.mono x3.g,ZY⟩⟩ q3) I3)⟩
def iX:∀{l:i!} {d x:D},d∉l.map c_->As l d x=l++[dx_]
 |[],_,_,_=>rfl
 |(y,z)::l,d,x,h=>by
  rw[HV,HN,ON]at h;unfold As;rw[k8_,iX h.2];rfl
def yE:∀{l:i!} {d:D},d∉l.map c_->kget l d=none
 |[],_,_=>rfl
 |(y,z)::l,d,h=>by
  rw[HV,HN,ON]at h;unfold kget;rw[k8_,yE h.2]
def a0d{h1:o!}{Z:St}{G:Hp}{A:x6!}{E:q_}(hu:at!):∀{kvs:i!} {us:List p8_} {acc:i!} {H:Hp} {s:yR!} {M:Mh} {n:Nat} {Q:z2!},Zv X.K G kvs us->Inv X h1 Z H s->MR X.prog X.w X.K M G H->Bk G H->
  M c=some (.dct acc n)->cR_+aE_<=1000->(∀p∈kvs,(Db p.1).isSome=true)->((acc++kvs).map c_).Nodup->
  (∀H' s',Inv X h1 Z H' s'->XM M G H z3! G H'->MR X.prog X.w X.K z3! G H'->Q PUnit.unit s')->
  wpAny e_ A (forIn us PUnit.unit λ(x:Value×Value) (_:PUnit)=>(do dictSet c x.1 x.2;pure (ForInStep.yield PUnit.unit):Sem z4_)) Q E s
 |_,_,acc,H,s,M,n,Q,.nil,I,m,sub,hM,hl,hk,nd,k=>by
  rw[PM];have hc:Bg M c (.dct (acc++[]) (n+0))=M:=by
   funext b;unfold Bg;split
   .rename_i e;rw[e,IR,hM];rfl
   .rfl
  have k:=k H s I;rw[LP,hc]at k;exact HK (k (.refl sub) m)
 |(d,x)::kvs,(u,v)::us,acc,H,s,M,n,Q,.cons r t,I,m,sub,hM,hl,hk,nd,k=>by
  rw[NC];obtain⟨kk,hd⟩:=PV.mp (hk _ HQ);have p8:d∉acc.map c_:=λz=>by
   rw[IU,IY]at nd;exact nd.2.2 d z d d! rfl
  simp only[IE]at hl;refine HI (HI (c2z hu I m sub hM r.1 hd r.2 (IT a! (show 1001<=big by decide)) λay s' I' c'=>HK ?_));have w9:Gs acc d n=n+1:=by unfold Gs;rw[yE p8];simp
  rw[w9,iX p8]at c';rw[w9]at I';have m':=m.write hM c';have ZZ:Bk G (upd H c (dE c ay cJ_)):=(XM.write (c:=.dct (acc++[dx_]) cJ_) m sub hM).sub;refine a0d hu t I' m' ZZ mup_same z5_ (λp hp=>hk p jF_) (by rw[KB];exact nd) λH2 s2 I2 x2 m2=>?_;have hc:Bg (Bg M c (.dct (acc++[dx_]) cJ_)) c (.dct (acc++[dx_]++kvs) (n+1+aE_))=Bg M c (.dct (acc++dx_::kvs) (n+(dx_::kvs).length)):=by
   funext b;unfold Bg;split
   .rw[KB,IE];simp only[List.singleton_append];rw[show n+1+kvs.length=n+(kvs.length+1)by omega]
   .rfl
  rw[hc]at x2 m2;exact k H2 s2 I2 ((XM.write m sub hM).trans x2 m') m2
def Pk(fp:WP):WE:=λρ M R=>∀p,M p=none->fp ρ eB! λkvs M1=>M1 p=some B!/\aE_<=1000/\(∀q∈kvs,(Db q.1).isSome=true)/\(fH_).Nodup/\R E! (Bg M1 p (.dct kvs aE_))
def qP(hu:aL!)(hp:z1_)(ic:keys.all (·.isSome)=true:=by rfl)(hl:keys.length=jq.length:=by rfl)(h0:keys≠[]:=by simp)(h15:keys.length<=15:=by decide):ME X own (.Dict keys jq pos) (Pk fp):=⟨by
 intro h1 s Z H Q I ⟨G,ρ,M,R,st,e,k⟩;have hn:=pairTrees_length keys jq X.env pos ic hl;have ff:pairTrees keys jq X.env pos≠[]:=λz=>by rw[z]at hn;exact h0 (QD.mp hn.symm)
 rw[arm_eval_Dict,zip_pairTrees keys jq X.env pos ic hl,dictDisplay_pairs _ ff a!];unfold subDict;have hf:H o_=none:=I.fresh;have D0:Pi zY_ s.heap.objs.size [] 0:=zZ!;have I1:Inv X h1 Z qa_ {s with heap:=s.heap.push {cls:=.type "dict",data:=.dict #[]}}:=by
  refine z0!;obtain⟨⟨o,z1,z2,z3⟩,z4⟩:=z;exact pU_
 have x0:XM M G H z8! G qa_:=.laid st.or.sub hf;have m0:MR X.prog X.w X.K z8! G qa_:=st.mr.laid hf st.or.sub z0_;refine HI (QO (HI (HI (wpAny_alloc (HI (JO ?_))))));rw[ac!];refine HI (hp.ok h1 _ Z G _ ρ _ _ _ I1 (st.grow x0 m0) (e _ (st.mr.nocell hf)) λkvs M1 G1 H1 us s1 r1 x1 m1 q1 I2=>?_);obtain⟨hM1,ap,hk,nd,r1⟩:=r1;refine JO (HI (a0d (A:=X.A) (acc:=[]) a! q1 I2 m1 x1.sub hM1 (by simpa using ap) hk nd λH2 s2 I3 x2 m2=>HK (HK (HK ⟨de_,H2,I3,rfl,?_⟩))));have VU:=(x0.trans x1 m0).trans x2 m1;simp only[KP,RJ]at VU m2;exact k _ _ _ G1 H2 r1 VU m2 Ax.fn⟩
end
abbrev WS:=Ae->Mh->(Fl->Mh->Prop)->Prop
structure Jt(P:yp!)(w:xV!)(K:yS!)(own:l!)(M0:Mh)(G0 F0:Hp)(M:Mh)(G H:Hp)(Z:St)(ρ:Ae):Prop where
 st:Tl P w K own G H Z ρ M
 x:XM M0 G0 F0 M G H
 fr:∀i∈own,∀p,Z[i]?=some ce!->F0 p=none
inductive DJ(P:yp!)(w:xV!)(K:yS!)(M0:Mh)(G0 F0:Hp)(own hx:l!)(f:WS)(E:Vo)(Z:St)(H:Hp):Prop
 |mk (G:Hp) (ρ:Ae) (M:Mh) (R:j!) (st:bZ_) (e:hO!) (a:∀ρ' M' G' σ H',R cS! M'->Jt P w K hx M0 G0 F0 M' G' H' σ ρ'->E.nx σ H') (b:∀d M' v G' H',R a0_ M'->XM M0 G0 F0 M' G' H'->MR P w K M' G' H'->Ax K G' d v->E.rt v H'):DJ P w K M0 G0 F0 own hx f E Z H
structure MS(X:Cx)(own hx:l!)(st:Stmt)(f:WS):Prop where
 ok:∀M0 G0 F0,PS X st z9!
structure Vm(X:Cx)(own hx:l!)(st:b1_)(f:WS):Prop where
 ok:∀M0 G0 F0,Uq X st z9!
section
variable{P:yp!}{w:xV!}{K:yS!}{own hx:List Nat}{M0 M M':Mh}{G0 F0 G H G' H':Hp}{Z σ:St}{ρ ρ':Ae}
def Jt.grow(s:bZ_)(x:kR_)(m:zn_):Jt P w K own M0 G0 F0 M' G' H' Z ρ:=⟨s.st.grow x m,s.x.trans x s.st.mr,s.fr⟩
def Jt.set{i:Nat}(s:bZ_)(hi:bp!)(r:cF_):Jt P w K own M0 G0 F0 M G H eN! cf!:=by
 have ne:∀j∈own,i≠j:=λj hj z=>hi (z▸hj);refine⟨⟨s.st.or.set hi r,s.st.mr,Aa!⟩,s.x,Aa!⟩
 .rw[JE (ne j hj)]at e;exact s.st.dj j hj p e
 .rw[JE (ne j hj)]at e;exact s.fr j hj p e
def Gj(own:l!)(Z:St)(H:Hp):Hp:=λb=>if b∈Ka own Z then none else H b
def Jt.sr(s:bZ_):SR K own G lb! G H Z ρ:=by
 refine⟨s.st.or,⟨fm_,jR_,s.st.or.sub,dr_⟩,xu!⟩
 .unfold Gj at e;show"!6"
  .cases e
  .exact e
 .unfold Gj;rw[HY (a6p hi e)]
def Jt.root(s:bZ_){b:x7!}(h:b∈Ka own Z):M b=none/\F0 b=none:=by obtain⟨i,hi,q⟩:=nZ h;exact⟨s.st.dj i hi b q,s.fr i hi b q⟩
def Jt.noF(s:bZ_){b:x7!}(h:Gj own Z H b=none):F0 b=none:=by
 unfold Gj at h;split at h
 .rename_i hb;exact(lb_).2
 .cases hM:M0 b with
  |none=>exact s.x.free hM h
  |some c=>exact absurd h (s.st.mr.has (s.x.cells b zl_))
def Jt.cellF(s:bZ_){b:x7!}{c:Pj}(h:M b=some c):Gj own Z H b=H b/\H b≠none:=by refine⟨?_,s.st.mr.has (by rw[h];simp)⟩;unfold Gj;rw[HP (λhb=>by rw[(lb_).1]at h;cases h)]
def Jt.mr'(s:bZ_)(x:Ab_):MR P w K M G' H':=⟨λa c e=>by
 obtain⟨Y,L⟩:=s.st.mr.cell a c e;obtain⟨e1,e2⟩:=s.cellF e;refine zm_
 .cases q:G' a with
  |none=>rfl
  |some o=>
   rcases x.new a b9! with z|z
   .exact absurd Y z
   .rw[e1]at z;exact absurd z e2
 .cases q:H a with
  |none=>exact absurd q e2
  |some o=>exact x.h a o (e1.trans q)⟩
def Jt.x'(s:bZ_)(x:Ab_):XM M0 G0 F0 M G' H':=by
 refine⟨s.x.g.trans x.g,x.sub,bo_,Ad!,s.x.dom,s.x.cells⟩
 .obtain z|z:=x.new b h
  .exact s.x.new b z
  .exact qd!
 .have Y:=s.x.keep b o e hb;refine x.h b o ?_;unfold Gj;rw[Ad_];exact Y
def Jt.after(s:bZ_)(r:SR K hx G lb! G' H' σ ρ'):Jt P w K hx M0 G0 F0 M G' H' σ ρ':=
 ⟨⟨r.or,s.mr' r.ext,λi hi p e=>by
  cases q:M p with
  |none=>rfl
  |some c=>
   obtain⟨e1,e2⟩:=s.cellF q;have:=r.fr i hi p e;rw[e1]at this;exact absurd this e2⟩,s.x' r.ext,λi hi p e=>s.noF (r.fr i hi p e)⟩
end
section
variable{X:Cx}{own bj jn:List Nat}{st:Stmt}{rest body:List Stmt}{e a b c tg o:Expr}{es:List Expr}{pos p2:Pos}{f fa fb fc fo:WE}{fs:WA}{ft fu:WT}{q1 q2 q3:WS}{q:Ae->Option Fl}
def qM{t:TS}(h:iB_)(hw:∀M0 G0 F0 E Z G H ρ M R,Jt X.prog X.w X.K own M0 G0 F0 M G H Z ρ->q1 ρ M R->
  (∀ρ' M' G' σ H',R cS! M'->Jt X.prog X.w X.K bj M0 G0 F0 M' G' H' σ ρ'->E.nx σ H')->(∀d M' v G' H',R a0_ M'->XM M0 G0 F0 M' G' H'->MR X.prog X.w X.K M' G' H'->Ax X.K G' d v->E.rt v H')->t E Z H):MS X own bj st q1:=
 ⟨λM0 G0 F0 h1 s Z H E I ⟨G,ρ,M,R,sr,e,k1,k2⟩=>h h1 s Z H E I (hw M0 G0 F0 E Z G H ρ M R sr e k1 k2)⟩
def Wh(q:aU!):WS:=λρ M R=>Dz (q ρ) λr=>R r M
def c0v(h:DS X own bj st q):MS X own bj st (Wh q):=⟨λM0 G0 F0 h1 s Z H E I ⟨G,ρ,M,R,sr,e,k1,k2⟩=>by
 obtain⟨r,e1,e2⟩:=dB e;refine h.ok G lb! h1 s Z H E I ⟨G,ρ,r,sr.sr,e1,?_⟩;cases r with
 |nx ρ'=>exact λG' σ H' cn=>k1 ρ' M G' σ H' e2 (sr.after cn)
 |rt d=>exact λv G' H' x r=>k2 d M v G' H' e2 (sr.x' x) (sr.mr' x) r⟩
def Bn:WS:=λρ M R=>R aK_ M
def Ah(q1 q2:WS):WS:=λρ M R=>q1 ρ M λr M1=>match r with|.nx ai=>q2 ai M1 R|.rt d=>R a0_ M1
def bJ:Vm X own own [] Bn:=⟨λM0 G0 F0 h1 s Z H E I ⟨G,ρ,M,R,sr,e,k1,k2⟩=>b3q h1 s Z H E I (k1 ρ M G Z H e sr)⟩
def aF(Y:Ag!)(L:Vm X bj jn rest q2):Vm X own jn mt! (Ah q1 q2):=⟨λM0 G0 F0 h1 s Z H E I ⟨G,ρ,M,R,sr,e,k1,k2⟩=>
 a6z qf_ Ah! h1 s Z H E I ⟨G,ρ,M,_,sr,e,λρ' M' G' σ H' r fg=>⟨G',ρ',M',R,fg,r,k1,k2⟩,λd M' v G' H' r x m q=>k2 d M' v G' H' r x m q⟩⟩
def aG(Y:Ag!):Vm X own bj [st] q1:=⟨λM0 G0 F0=>b3p qf_⟩
def Jt.free{P:yp!}{w:xV!}{K:yS!}{M0 M:Mh}{G0 F0 G H:Hp}{Z:St}{ρ:Ae}(s:bZ_):Jt P w K [] M0 G0 F0 M fo! H Z ρ:=by
 have o:=s.st.or.full;have sG:Bk G fo!:=λb u e=>by
  unfold Lf;split
  .exact s.st.or.sub b u e
  .exact e
 refine⟨⟨o,⟨λa c e=>?_⟩,as!⟩,⟨s.x.g.trans sG,o.sub,bo_,s.x.keep,s.x.dom,s.x.cells⟩,as!⟩
 .obtain⟨Y,L⟩:=s.st.mr.cell a c e;refine⟨?_,L.mono sG rfl⟩;unfold Lf;rw[HP (λhb=>by rw[(lb_).1]at e;cases e)];exact Y
 .unfold Lf at h;split at h
  .rename_i hb;exact .inr (lb_).2
  .exact s.x.new b h
def xP(h:Vm X [] jn rest q1):Vm X own jn rest q1:=⟨λM0 G0 F0 h1 s Z H E I ⟨G,ρ,M,R,sr,e,k1,k2⟩=>h.ok M0 G0 F0 h1 s Z H E I ⟨_,ρ,M,R,sr.free,e,k1,k2⟩⟩
def Az(f:WE):WS:=λρ M R=>f ρ M λd M1=>R a0_ M1
def bA(h:bY!):MS X own bj mt_ (Az f):=qM (b9j h.ok) λM0 G0 F0 E Z G H ρ M R sr e k1 k2=>
 ⟨G,ρ,M,_,sr.st,e,λd M' v G' H' r x m q=>k2 d M' v G' H' r (sr.x.trans x sr.st.mr) m q⟩
def Qj:WS:=λ_ M R=>R (.rt .non) M
def a3q:MS X own bj r7! Qj:=qM c4q λM0 G0 F0 E Z G H ρ M R sr e k1 k2=>k2 _ M _ G H e sr.x sr.st.mr Ax.non
def Am(i:Nat)(f:WE):WS:=λρ M R=>f ρ M λd M1=>R qh! M1
def aX{i:Nat}(hN:bv_)(hi:ak_)(J:bw!)(h:bY!)(bu:bp!:=by decide)(hs:xh_:=by rfl)
  (hf:X.fn x=true\/X.env.scope.names.lookup x=some .local:=by first|exact .inl rfl|exact .inr rfl|assumption):MS X own own xi! (Am i f):=
 qM xi_ λM0 G0 F0 E Z G H ρ M R sr e k1 k2=>⟨G,ρ,M,_,sr.st,e,λd M' v G' H' r x m q=>k1 _ M' G' _ H' r ((qh_).set bu q)⟩
def Av(ft:WT)(q1 q2:WS):WS:=λρ M R=>ft ρ M λb M1=>if b then q1 ρ M1 R else q2 ρ M1 R
def bY{b1 b2:b1_}(hc:pS_)(Y:Vm X own bj b1 q1)(L:Vm X own bj b2 q2):MS X own bj xj! (Av ft q1 q2):=⟨λM0 G0 F0 h1 s Z H E I ⟨G,ρ,M,R,sr,e,k1,k2⟩=>by
 refine c7j hc.ok qf_ Ah! h1 s Z H E I ⟨G,ρ,M,_,sr.st,e,λb M' G' H' r x m=>?_⟩;cases b with
 |true=>exact nB Ak!
 |false=>exact nE Ak!⟩
def Bo(f:WE):WS:=λρ M R=>f ρ M λ_ M1=>R aK_ M1
def cF(h:bY!)(hs:r5!:=by rfl):MS X own own (.Expr e pos) (Bo f):=
 qM (vV h.ok hs) λM0 G0 F0 E Z G H ρ M R sr e k1 k2=>⟨G,ρ,M,_,sr.st,e,λd M' v G' H' r x m q=>k1 ρ M' G' Z H' r qh_⟩
def Fh:WS:=λ_ _ _=>False
def gG:MS X own bj st Fh:=⟨λM0 G0 F0 h1 s Z H E I ⟨G,ρ,M,R,sr,e,k1,k2⟩=>e.elim⟩
def Fn(C:x7!)(x:Str)(fo f:WE):WS:=λρ M R=>f ρ M λy M1=>fo ρ M1 λd M2=>match d with
 |.fn p=>(match M2 p with|some (.obj C' fs)=>C'=C/\bu_<100/\R aK_ (Bg M2 p qi_)|_=>False)
 |_=>False
def gH(c:d0_)(n:Ef X.K C x)(ho:cQ!)(h:bY!)(hs:swapsWith e (some (.Attribute o x p2)) pos.line X.env=pure false:=by rfl):MS X own own (.Assign [.Attribute o x p2] e pos) (Fn C x fo f):=
 qM (c8r ho.ok h.ok hs) λM0 G0 F0 E Z G H ρ M R sr e k1 k2=>⟨G,ρ,M,_,sr.st,e,λy M1 v G1 H1 r1 x1 m1 q1=>⟨G1,ρ,M1,_,sr.st.grow x1 m1,r1,λd M2 u G2 H2 r2 x2 m2 q2=>by
  cases d<;>first|exact r2.elim|skip
  rename_i p;cases gD q2;dsimp only at r2;split at r2
  .rename_i C' fs hM;obtain⟨hC,hl,r2⟩:=r2;subst hC;obtain⟨_,dx,vs,h3,h4⟩:=m2.cell p _ hM;have ap:bu_=bB!:=MQ h4;exact⟨p,_,dx,vs,rfl,h3,c,n,v!,k1 ρ _ G2 Z _ r2 ((Al_).grow (.write m2 x2.sub hM) (m2.write hM ⟨dx,_,cC,b4v cm_ h4⟩))⟩
  .exact r2.elim⟩⟩
def Lh(M:Mh)(d y v:D):Option Mh:=match d with
 |.fn p=>match M p with
  |some (.dct kvs ep)=>if(fN!).isSome&&decide (aE_<big)then some hY! else none
  |some (.lst xs)=>match y with
   |.int j=>(Ea xs.length j).map λk=>Bg M p (.lst (xs.set k v))
   |_=>none
  |_=>none
 |_=>none
def BS(P:yp!)(w:xV!)(K:yS!):V->V->V->Hp->mu_->Prop:=λo i v H Q=>∃(M:Mh) (G:Hp) (a:x7!) (kvs:i!) (ep:Nat) (d x:D) (k:MK),o=.ref a/\Bk G H/\MR P w K M G H/\M a=some hQ_/\Ax K G d i/\Db d=some k/\Ax K G x v/\aE_<big/\
 ∀ay,Hj P w K G kW_ a zy!->Q kW_
def c4b(hu:aL!):Wp X (BS X.prog X.w X.K):=by intro h1 s Z H o i v ov iv u Q I ro ri rv h;obtain⟨M,G,a,kvs,ep,d,x,k,rfl,sub,m,e,r,hk,rx,hl,q⟩:=h;cases ro;exact b2e (A:=X.A) a! I m sub e ⟨_,r,ri⟩ hk ⟨_,rx,rv⟩ hl λay s' I' c'=>⟨_,I',q ay c'⟩
def c4o{r r':Zc}(h:Wp X r)(h':Wp X r'):Wp X (λo i v H Q=>r o i v H Q\/r' o i v H Q):=by
 intro h1 s Z H o i v ov iv u Q I ro ri rv q;obtain q|q:=q
 .exact h h1 s Z H o i v ov iv u Q I ro ri rv q
 .exact h' h1 s Z H o i v ov iv u Q I ro ri rv q
def Cb(fo fi f:WE):WS:=λρ M R=>f ρ M λv M1=>fo ρ M1 λd M2=>fi ρ M2 λy M3=>Dz qj! λM4=>R aK_ M4
def dN{fi:WE}(hu:aL!)(ho:cQ!)(hi:ME X own i fi)(h:bY!)
  (ha:∀v,assign An! X.env v=(do
   let ov <-holding [v] dQ!
   let iv <-holding [v,ov] sb!
   standAt p2
   holding eU_ mx!
   release eU_ []):=by intro _;rfl)
  (hs:swapsWithSole le! e pos.line X.env=pure false:=by rfl) (hw:swappedStores le! e X.env=pure none:=by rfl)
  (Y:(assignEach le! X.env).map A_=[assign An! X.env]:=by rfl):MS X own own (.Assign le! e pos) (Cb fo fi f):=
 qM (b9l h.ok (b9r ho.ok hi.ok (c4o a6g (c4b hu)) ha) hs hw Y) λM0 G0 F0 E Z G H ρ M R sr e k1 k2=>⟨G,ρ,M,_,sr.st,e,λv M1 vv G1 H1 r1 x1 m1 q1=>⟨G1,ρ,M1,_,sr.st.grow x1 m1,r1,λd M2 dv G2 H2 r2 x2 m2 q2=>
  ⟨G2,ρ,M2,_,(sr.st.grow x1 m1).grow x2 m2,r2,λy M3 yv G3 H3 r3 x3 m3 q3=>by
   obtain⟨M4,e4,r4⟩:=dB r3;have xa:=(Al_).grow x3 m3;have qd:=q2.mono x3.g;have qv:=(cm_).mono x3.g;unfold Lh at e4;split at e4
   .rename_i p;cases gD qd;split at e4
    .rename_i kvs ep hM;split at e4
     .rename_i hc;rw[IZ,JA]at hc;cases e4;obtain⟨kk,hk⟩:=PV.mp hc.1;exact .inr ⟨M3,G3,p,kvs,ep,y,v,kk,rfl,x3.sub,m3,hM,q3,hk,qv,hc.2,λay c'=>k1 ρ _ G3 Z _ r4 (xa.grow An_ (m3.write hM c'))⟩
     .cases e4
    .rename_i xs hM;split at e4
     .rename_i j;cases bG q3;obtain⟨n,e5,rfl⟩:=HU.mp e4;obtain⟨_,vs,h3,h4⟩:=m3.cell p _ hM;exact .inl ⟨p,vs,j,n,rfl,rfl,h3,by rw[<-aL h4];exact e5,k1 ρ _ G3 Z _ r4 (xa.grow An_ (m3.write hM ⟨_,cC,xA qv n h4⟩))⟩
     .cases e4
    .cases e4
   .cases e4⟩⟩⟩
def To(i:Nat)(f:WE):WS:=λρ M R=>match ρ[i]? with
 |some (some (.int a))=>f ρ M λd M1=>(match d with|.int b=>R (.nx (ρ.set i (some (.int (a+b))))) M1|_=>False)
 |_=>False
def c0w{i:Nat}(hN:bv_)(hi:ak_)(J:bw!)(h:bY!)(bu:bp!:=by decide)
  (hf:X.fn x=true\/X.env.scope.names.lookup x=some .local:=by first|exact .inl rfl|exact .inr rfl|assumption):MS X own own (.AugAssign dq! .Add e pos) (To i f):=
 qM (c8s hN hi J h.ok d0b hf) λM0 G0 F0 E Z G H ρ M R sr e k1 k2=>by
  unfold To at e;show"!6"
  .rename_i a oo;obtain⟨v,Y,L⟩:=sr.st.or.at_ i _ oo bu;cases bG L;refine⟨_,Y,G,ρ,M,_,sr.st,e,Ao_⟩;cases d<;>first|exact r.elim|skip
   cases bG q;exact⟨a,_,rfl,rfl,k1 _ M' G' _ H' r ((qh_).set bu Ax.int)⟩
  .exact e.elim
def Dd(ft:WT)(q:WS):Nat->WS
 |0=>λ_ _ _=>False
 |n+1=>λρ M R=>ft ρ M λb M1=>if b then q ρ M1 (λr M2=>match r with|.nx bi=>Dd ft q n bi M2 R|.rt d=>R a0_ M2)else R aK_ M1
def Ic(ft:WT)(q:WS):WS:=λρ M R=>∃n,Dd ft q n ρ M R
def jY(hp:go!)(hc:pS_)(hb:Ap!):MS X own own sf_ (Ic ft q1):=⟨λM0 G0 F0 h1 s Z H E I ⟨G,ρ,M,R,sr,⟨n,e⟩,k1,k2⟩=>by
 refine b9i hp hc.ok (hb.ok M0 G0 F0) h1 s Z H E I ⟨λm σ H'=>∃G' ρ' M',Jt X.prog X.w X.K own M0 G0 F0 M' G' H' σ ρ'/\Dd ft q1 m ρ' M' R,⟨n,G,ρ,M,sr,e⟩,?_⟩;rintro m σ H' ⟨G',ρ',M',fg,e'⟩;cases m with
 |zero=>exact e'.elim
 |succ m=>
  refine⟨G',ρ',M',_,fg.st,e',λb M1 G1 H1 r1 x1 m1=>?_⟩;cases b with
  |true=>exact nB ⟨λdb H2=>∃G2 bi M2,Jt X.prog X.w X.K own M0 G0 F0 M2 G2 H2 db bi/\Dd ft q1 m bi M2 R,λdb H2 h=>⟨m,OM m,h⟩,G1,ρ',M1,_,fg.grow x1 m1,r1,λbi M2 G2 db H2 r2 zo=>⟨G2,bi,M2,zo,r2⟩,λd M2 v G2 H2 r2 x2 m2 q2=>k2 d M2 v G2 H2 r2 x2 m2 q2⟩
  |false=>exact nE (k1 ρ' M1 G1 σ H1 r1 (fg.grow x1 m1))⟩
end
def DZ(P:yp!)(w:xV!)(K:yS!)(af:It)(ds:c!)(ck:bf_)(G1:Hp):Prop:=∀(i:Nat) (M':Mh) (G' H':Hp),Bk G1 G'->Bk G' H'->MR P w K M' G' H'->ck M'->
 w8_/\w9!
abbrev WI:=Ae->Mh->(List D->(Mh->Prop)->Mh->Prop)->Prop
inductive FT(P:yp!)(w:xV!)(K:yS!)(own:l!)(fi:WI)(Z:St)(H:Hp)(R:go_):Prop
 |mk (G:Hp) (ρ:Ae) (M:Mh) (T:List D->(Mh->Prop)->Mh->Prop) (st:hM_) (e:fi ρ M T) (k:∀ds ck M1 af G1 H1,T ds ck M1->XM M G H M1 G1 H1->MR P w K M1 G1 H1->DZ P w K af ds ck G1->R af H1):FT P w K own fi Z H R
structure MI(X:Cx)(own:l!)(tg iter:Expr)(fi:WI):Prop where
 ok:PI X tg iter (FT X.prog X.w X.K own fi)
section
variable{X:Cx}{own bj jn:List Nat}{st:Stmt}{rest body:List Stmt}{e a b c tg o:Expr}{es:List Expr}{pos p2:Pos}{f fa fb fc fo:WE}{fs:WA}{fi:WI}{ft fu:WT}{q1 q2 q3:WS}{di:Ae->Option (List D)}
def c7q{wi:TI}(h:PI X tg e wi)(hw:∀Z G H R ρ M T,Tl X.prog X.w X.K own G H Z ρ M->fi ρ M T->(∀ds ck M1 af G1 H1,T ds ck M1->XM M G H M1 G1 H1->MR X.prog X.w X.K M1 G1 H1->DZ X.prog X.w X.K af ds ck G1->R af H1)->wi Z H R):MI X own tg e fi:=
 ⟨λh1 s Z H R I ⟨G,ρ,M,T,st,e,k⟩=>h h1 s Z H R I (hw Z G H R ρ M T st e k)⟩
def Ia(di:as_):WI:=λρ M T=>Dz (di ρ) λds=>T ds ae_ M
def Zf.m{K:yS!}{af:It}{G1:Hp}(h:Zf K af ds G1):DZ P w K af ds ae_ G1:=λi M' G' H' s1 s2 _ _=>h i G' H' s1 s2
def mS(h:DI X own tg e di):MI X own tg e (Ia di):=c7q h.ok λZ G H R ρ M T st e k=>by
 obtain⟨ds,e1,e2⟩:=dB e;exact⟨G,ρ,ds,st.or,e1,λaf G1 H1 x f7=>k ds _ M af G1 H1 e2 (.ext x) pR_ f7.m⟩
def Bw(f:WE):WI:=λρ M T=>f ρ M λd M1=>match d with
 |.lst xs=>T xs ae_ M1
 |.fn p=>(match M1 p with|some (.lst xs)=>T xs (λM=>M p=some T!) M1|_=>False)
 |_=>False
def eB(h:aE!):MI X own tg a (Bw fa):=c7q (b3u h.ok) λZ G H R ρ M T st e k=>⟨G,ρ,M,_,st,e,λd M1 v G1 H1 r1 x1 m1 q1=>by
 cases d<;>first|exact r1.elim|skip
 .obtain⟨p,vs,rfl,q,rr⟩:=bT q1;exact⟨p,rfl,⟨vs,x1.sub.seq q⟩,k _ _ M1 _ G1 H1 r1 x1 m1 (a8j q rr).m⟩
 .rename_i p;cases gD q1;dsimp only at r1;split at r1
  .rename_i xs hM;obtain⟨_,vs,Y,L⟩:=m1.cell p _ hM;refine⟨p,rfl,⟨vs,Fz.of Y⟩,k _ _ M1 _ G1 H1 r1 x1 m1 λi M' G' H' s1 s2 m' ck=>?_⟩;obtain⟨_,gf,h3,h4⟩:=m'.cell p _ ck;have q':Fz X.K H' p gf:=Fz.of h3;refine⟨eq!,λhi=>⟨gf,q',by rw[<-aL h4,hi];exact IM _⟩⟩;obtain⟨v,g1,g2⟩:=iT h4 hd;refine⟨⟨gf,v,q',g1⟩,hn_⟩;obtain⟨e1,e2⟩:=hy;subst e1;have:=e2 gf q';rw[g1]at this;cases this;exact⟨G',ka_,g2⟩
  .exact r1.elim⟩
def Ig(bnd:ai_)(ck:bf_)(q:WS):List D->WS
 |[]=>λρ M R=>ck M/\R aK_ M
 |d::ds=>λρ M R=>ck M/\Dz kc! λai=>q ai M λr M1=>match r with|.nx bi=>Ig bnd ck q ds bi M1 R|.rt d=>R a0_ M1
def Df(fi:WI)(bnd:ai_)(q:WS):WS:=λρ M R=>fi ρ M λds ck M1=>Ig bnd ck q ds ρ M1 R
def FN(K:yS!)(own:l!)(g:TG)(bnd:ai_):Prop:=∀{P:yp!} {w:xV!} {x:V} {d:D} {Z:St} {M0 M:Mh} {G0 F0 G H:Hp} {ρ ai:Ae} {Q:iC_},Jt P w K own M0 G0 F0 M G H Z ρ->Ax K G d x->bnd d ρ=some ai->(∀dw,Jt P w K own M0 G0 F0 M G H dw ai->Q dw H)->g x Z H Q
def dH{K:yS!}(i:Nat)(hi:bp!:=by decide):FN K own eU! (Cg i):=by intro P w x d Z M0 M G0 F0 G H ρ ai Q sr r e k;cases e;exact k _ (sr.set hi r)
def Wf(i j:Nat):D->Ae->Option Ae:=λd ρ=>match d with|.tup [x,y]=>some ((ρ.set i eV!).set j (some y))|_=>none
def c2d{K:yS!}(i j:Nat)(hi:bp!:=by decide)(hj:j∉own:=by decide):FN K own xb_ (Wf i j):=by
 intro P w x d Z M0 M G0 F0 G H ρ ai Q sr r e k;unfold Wf at e;show"!6"
 .cases e;show"!X";show"!4";exact⟨p,[v1,v2],rfl,cD sr.st.or.sub q,rfl,v1,[v2],rfl,v2,[],rfl,rfl,k _ ((sr.set hi r1).set hj r2)⟩
 .cases e
def Jt.base{K:yS!}{M0 M1:Mh}{G0 F0 G1 H1:Hp}{Z:St}{ρ:Ae}(s:qk_):Jt P w K own M1 G1 h0! M1 G1 H1 Z ρ:=
 ⟨s.st,⟨Bk.refl _,s.st.or.sub,dr_,λb o e _=>s.sr.ext.h b o e,dr_,λb h=>h⟩,λi hi p e=>s.sr.fr i hi p e⟩
def Jt.unx{K:yS!}{M0 M1 M':Mh}{G0 F0 G1 H1 G' H':Hp}{Z:St}{ρ:Ae}(s:qk_)(y:XM M1 G1 h0! M' G' H'):XM M0 G0 F0 M' G' H':=by
 refine⟨s.x.g.trans y.g,y.sub,bo_,Ad!,bo_,λb h=>y.cells b (s.x.cells b h)⟩
 .obtain z|z:=y.new b h
  .exact s.x.new b z
  .exact qd!
 .refine y.keep b o ?_ ?_
  .unfold Gj;rw[Ad_];exact s.x.keep b o e hb
  .cases q:M1 b with
   |none=>rfl
   |some c=>
    rcases s.x.dom b b9! with z|z
    .exact absurd hb z
    .rw[e]at z;cases z
 .obtain z|z:=y.dom b h
  .exact s.x.dom b z
  .exact qd!
def Jt.unbase{K:yS!}{M0 M1 M':Mh}{G0 F0 G1 H1 G' H':Hp}{Z σ:St}{ρ ρ':Ae}(s:qk_)(s':Jt P w K bj M1 G1 h0! M' G' H' σ ρ'):Jt P w K bj M0 G0 F0 M' G' H' σ ρ':=
 ⟨s'.st,s.unx s'.x,λi hi p e=>s.noF (s'.fr i hi p e)⟩
def eS{g:TG}{bnd:ai_}(hp:go!)(hc:a4!)(be:ql!)(hg:my!)(ny:FN X.K own g bnd)(hb:Ap!)
  (hs:c7!:=by intro _;rfl):MS X own own sA_ (Df fi bnd q1):=⟨λM0 G0 F0 h1 s Z H E I ⟨G,ρ,M,R,sr,e,k1,k2⟩=>by
 have dr:Uq X body (λE Z H=>∃A B C,DJ X.prog X.w X.K A B C own own q1 E Z H):=λh1 s Z H E I ⟨A,B,C,h⟩=>hb.ok A B C h1 s Z H E I h;refine b9k hp hc be.ok hg dr hs h1 s Z H E I ⟨G,ρ,M,_,sr.st,e,λds ck M1 af G1 H1 r1 x1 m1 f7=>?_⟩;have zp:=sr.grow x1 m1;refine⟨λn m σ H'=>n<=h!/\m=h! - n/\∃G' ρ' M',Jt X.prog X.w X.K own M1 G1 h0! M' G' H' σ ρ'/\Ig bnd ck q1 ol_ ρ' M' R,
  ⟨h!,JS _,rfl,G1,ρ,M1,zp.base,r1⟩,?_⟩
 rintro n m σ H' ⟨hn,rfl,G',ρ',M',fg,e3⟩;have cr:ck M':=by
  cases hd:ds.drop n with
  |nil=>rw[hd]at e3;exact e3.1
  |cons _ _=>rw[hd]at e3;exact e3.1
 obtain⟨nh,nj⟩:=f7 n M' G' H' fg.x.g fg.st.or.sub fg.st.mr cr;by_cases am:n<h!
 .right;have hd:ds[n]?=some ds[n]:=by simp[am]
  rw[MD am]at e3;obtain⟨_,e3⟩:=e3;obtain⟨ai,e4,e3⟩:=dB e3;obtain⟨go,yl⟩:=nh _ hd;refine⟨go,λdb H2=>∃G2 bi M2,Jt X.prog X.w X.K own M1 G1 h0! M2 G2 H2 db bi/\Ig bnd ck q1 (ds.drop cJ_) bi M2 R,λdb H2 ⟨G2,bi,M2,Y,h3⟩=>⟨h! - cJ_,v!,am,rfl,G2,bi,M2,Y,h3⟩,kc_⟩;obtain⟨G2,x2,r2⟩:=yl v H2 hy;have zo:=fg.grow k3_ (fg.st.mr.ext x2);exact ny zo r2 e4 λgr xa=>⟨M1,G1,Gj own Z H1,G2,ai,M',_,xa,e3,λuh M4 G4 σ4 H4 r4 Z0=>⟨G4,uh,M4,Z0,r4⟩,λd M4 v G4 H4 r4 x4 m4 q4=>k2 d M4 v G4 H4 r4 (zp.unx x4) m4 q4⟩
 .left;have iz:n=h!:=by omega
  refine o3!;rw[iz,QH]at e3;exact k1 ρ' M' G' σ H' e3.2 (zp.unbase fg)⟩
def Ro(bnd:ai_)(ck:bf_)(ft:WT)(fe:WE)(ρ:Ae):List D->Mh->zo_->Prop
 |[],M,R=>ck M/\R [] M
 |d::ds,M,R=>ck M/\Dz kc! λai=>ft ai M λb M1=>if b then fe ai M1 λy M2=>Ro bnd ck ft fe ρ ds M2 λys M3=>R (y::ys) M3 else Ro bnd ck ft fe ρ ds M1 R
def Bf(nl:Nat)(ix:l!)(fi:WI)(bnd:ai_)(ft:WT)(fe:WE):WE:=λρ M R=>fi ρ M λds ck M1=>h!<=big/\Ro bnd ck ft fe hc! ds M1 λys M2=>R ba_ M2
def b5c{K:yS!}{af:It}{ds:c!}{ck:bf_}{M1:Mh}{G1 H1:Hp}{g:TG}{bnd:ai_}{fe:WE}{j8:Ae}{tj:St}{Fin:c0_}{R:kT_}
  (hb:h!<=big)(f7:DZ P w K af ds ck G1)(hg:GD K g bnd)(er:Tl P w K [] G1 H1 tj j8 M1)(e:Ro bnd ck ft fe j8 ds M1 R)(k:∀jm ys M' G' H',R jm M'->XM M1 G1 H1 M' G' H'->MR P w K M' G' H'->An K G' jm ys->jm.length<=h!->Fin ys H'):
  Wg af g (Zi P w K [] ft) (BG P w K [] fe) Fin tj H1:=by
 refine⟨λi m ys σ H'=>i<=h!/\m=h! - i/\∃G' M' ws,XM M1 G1 H1 M' G' H'/\Tl P w K [] G' H' σ j8 M'/\An K G' ws ys/\nr_<=i/\Ro bnd ck ft fe j8 (ds.drop i) M' λr M2=>R (ws++r) M2,
  ⟨h!,JS _,rfl,G1,M1,[],.refl er.or.sub,er,An.nil,JS _,e⟩,?_⟩
 rintro i m ys σ H' ⟨hi,rfl,G',M',ws,x,cn,ak,hw,e2⟩;refine xc_;have cr:ck M':=by
  cases hd:ds.drop i with
  |nil=>rw[hd]at e2;exact e2.1
  |cons _ _=>rw[hd]at e2;exact e2.1
 obtain⟨nh,nj⟩:=f7 i M' G' H' x.g cn.or.sub cn.mr cr;by_cases am:i<h!
 .right;have hd:ds[i]?=some ds[i]:=by simp[am]
  rw[MD am]at e2;obtain⟨_,e2⟩:=e2;obtain⟨ai,e1,e2⟩:=dB e2;obtain⟨go,yl⟩:=nh _ hd;refine⟨go,kc_⟩;obtain⟨G2,x2,r2⟩:=yl v H2 hy;have cj:=cn.grow k3_ (cn.mr.ext x2);have Z1:XM M1 G1 H1 M' G2 H2:=x.trans k3_ cn.mr;refine hg cj.or r2 e1 λdw ng tz=>⟨G2,ai,M',_,Au!,e2,λb M3 G3 H3 r3 x3 m3=>?_⟩;have j9:=(show Tl P w K [] G2 H2 dw ai M' from Au!).grow x3 m3;have ll:=Z1.trans x3 cj.mr;cases b with
  |true=>
   refine nB ⟨G3,ai,M3,_,j9,r3,λy M4 u G4 H4 r4 x4 m4 q4=>⟨h! - a5!,v!,am,rfl,G4,M4,ws++[y],ll.trans x4 m3,⟨(j9.grow x4 m4).or.le tz,m4,as!⟩,?_,?_,?_⟩⟩
   .exact dG xd! (An.cons q4 An.nil)
   .rw[IG,LA];omega
   .have e5:(λr M2=>R (ws++[y]++r) M2)=λr M2=>R (ws++y::r) M2:=by
     funext r M2;rw[KB];rfl
    rw[e5];exact r4
  |false=>
   exact nE ⟨h! - a5!,v!,am,rfl,G3,M3,ws,ll,⟨j9.or.le tz,m3,as!⟩,(oV_).mono x3.g,v!,r3⟩
 .left;have iz:i=h!:=by omega
  refine o3!;rw[iz,QH]at e2;have this:R (ws++[]) M':=e2.2;rw[IR]at this;exact k ws ys M' G' H' this x cn.mr ak a!
def fQ{scope:Scope}{NL:q!}{ix:l!}{g:TG}{bnd:ai_}{fe:WE}
  (cm:di_)(cg:dj!)(j7:∀y∈ca!,y.2=.local->scope.names.lookup y.1=some .local)
  (io:g5_)(cap:di!)(nv:jT!)(calm:a4!)(be:ql!)
  (hg:g6!)(ny:oW!)(hi:Av!)(he:Av_)
  (hs:c7!:=by intro _;rfl):
  ME X own g4_ Aw!:=
 fB xe_ λZ G H Q ρ M R st e k=>⟨G,ρ,M,_,st,e,λds ck M1 af G1 H1 r1 x1 m1 f7=>by
  obtain⟨hb,r1⟩:=r1;have p9:=st.grow x1 m1;refine b5c hb f7 ny Aw_ r1 λjm ys M' G' H' r x m q _ p hp=>?_;exact k _ M' _ _ _ r ((x1.trans x m1).trans (.ext hp!) m) (m.ext hp!) (dR oW_ q)⟩
def oQ:Qd X [] (Zi X.prog X.w X.K [] λρ M R=>R true M):=λh1 s Z H Q I ⟨G,ρ,M,R,st,e,k⟩=>a7b h1 s Z H Q I (k true M G H e pS! st.mr)
def oP(h:MT X [] c ft):Qd X [c] Au_:=a7a h.ok
abbrev WF:=List D->Mh->zp!->Prop
def Yc(P:yp!)(w:xV!)(K:yS!)(n:Nat)(g:WF):Sp:=λvs H Q _=>bB!=n/\∃G ds M R,Bk G H/\MR P w K M G H/\An K G ds vs/\g ds M R/\∀d M' v G' H',R d M'->XM M G H M' G' H'->MR P w K M' G' H'->Ax K G' d v->Q v H'
def Jv(P:yp!)(w:xV!)(K:yS!)(mg:z!)(base:Heap)(k:Nat)(x:Str)(ps:q!)(g:WF):Prop:=
 ∃ae fd,Fq P w K mg base Qf k ae fd ps qn_/\Fc K fd ps []/\mg x=some bT_/\W.keepIn K bT_=true
nonrec def gl(g:ai!):WF:=λds M R=>Dz (g ds) λd=>R d M
def Ai(n:Nat)(g:WF)(fs:WA):WE:=λρ M R=>fs ρ M λds M1=>h!=n/\g ds M1 R
def aO{k:Nat}{ps:q!}{g:WF}{x:Str}(F:Jv X.prog X.w X.K X.mg X.base k x ps g)(hr:b6!)(hg:Y_)(ha:hT!)
  (bg:F_:=by decide)(he:az!:=by rfl)(a7:a6_:=by rfl):
  ME X own bB_ (Ai ps.length g fs):=by
 obtain⟨ae,fd,Y,L,h3,h4⟩:=F;refine fB (b3y Y hr hg h3 h4 L .nil xE ha.ok bg he a7) λZ G H Q ρ M R st e' k=>⟨G,ρ,M,_,st,e',λds M1 vs G1 H1 r1 x1 m1 q1=>?_⟩;show Yc X.prog X.w X.K ps.length g (vs++[]) H1 Q E0;rw[IR];exact⟨by rw[<-aL q1];exact r1.1,G1,ds,M1,R,x1.sub,m1,q1,r1.2,zu!⟩
def Dt(P:yp!)(w:xV!)(K:yS!)(mg:z!)(base:Heap)(k:Nat)(C:x7!)(m:Str)(ps:q!)(g:WF):Prop:=
 Uu K C/\∃ae fd,Wr K C m ae/\Fq P w K mg base Qf k ae fd ps qn_/\Fc K fd ps []
def Dh(C:x7!)(m:Str)(M:Mh)(d:D):Prop:=match d with
 |.fn p=>(match M p with|some (.obj C' fs)=>C'=C/\fs.lookup m=none|_=>False)
 |_=>False
def a8k{K:yS!}{M:Mh}{G H:Hp}(mr:cm!)(r:cF_)(h:lh!):∃p dx vs,d=.fn p/\v=.ref p/\H p=some zi!/\vs.lookup m=none:=by
 unfold Dh at h;split at h
 .rename_i p;cases gD r;split at h
  .rename_i C' fs hM;obtain⟨rfl,hl⟩:=h;obtain⟨_,dx,vs,Y,L⟩:=mr.cell p _ hM;exact⟨p,dx,vs,rfl,rfl,Y,a8s L hl⟩
  .exact h.elim
 .exact h.elim
def Bb(C:x7!)(m:Str)(n:Nat)(g:WF)(fo:WE)(fs:WA):WE:=λρ M R=>fo ρ M λd M1=>Dh C m M1 d/\fs ρ M1 λds M2=>h!+1=n/\g ee_ M2 R
def bU{k:Nat}{ps:q!}{g:WF}{aj:Pos}{pl:dZ_}(F:Ax_)(hr:b6!)(ho:cQ!)(ha:hT!)
  (b9:az!:=by rfl)(a7:a6_:=by rfl)
  (ht:eval i7! X.env=(do
   let ov <-eval o X.env
   standAt gE_
   let(f,first) <-holding [ov] gF!
   callWith pos f first tT! e5!):=by rfl):ME X own i7! (Bb C m ps.length g fo fs):=by
 obtain⟨cl,ae,fd,Y,L,h3⟩:=F;refine fB (c4w (pl:=pl) ho.ok cl Y L hr h3 .nil xE ha.ok b9 a7 ht) λZ G H Q ρ M R st e' k=>Ay_;show"!o";refine⟨p,dx,vs,rfl,hH,hl,G1,ρ,M1,_,kV!,r1,λds M2 us G2 H2 r2 x2 m2 q2=>?_⟩;show Yc X.prog X.w X.K ps.length g (.ref p::(us++[])) H2 Q E0;rw[IR];exact⟨by rw[IE,<-aL q2];exact r2.1,G2,.fn p::ds,M2,R,x2.sub,m2,An.cons Ax.fn q2,r2.2,λd M3 v G3 H3 r3 x3 m3 q3=>k d M3 v G3 H3 r3 p8! m3 q3⟩
def a7u{k:Nat}{ps:q!}{g:WF}{aj:Pos}{pl:dZ_}(F:Ax_)(hr:b6!)(ho:cQ!)
  (ht:eval i7_ X.env=(do
   let ov <-eval o X.env
   standAt gE_
   let(f,first) <-holding [ov] gF!
   callWith pos f first nl! e5!):=by rfl):ME X own i7_ (Bb C m ps.length g fo Af):=by
 obtain⟨cl,ae,fd,Y,L,h3⟩:=F;refine fB (b9z (pl:=pl) ho.ok cl Y L hr h3 .nil xE ht) λZ G H Q ρ M R st e' k=>Ay_;show"!o";refine⟨p,dx,vs,rfl,hH,hl,?_⟩;show Yc X.prog X.w X.K ps.length g gS_ H1 Q E0;have r2:[].length+1=V_/\g (D.fn p::[]) M1 R:=r1;exact⟨r2.1,G1,[.fn p],M1,R,x1.sub,m1,An.cons Ax.fn An.nil,r2.2,λd M3 v G3 H3 r3 x3 m3 q3=>k d M3 v G3 H3 r3 (x1.trans x3 m1) m3 q3⟩
def Wq(P:yp!)(w:xV!)(K:yS!)(mg:z!)(base:Heap)(k:Nat)(x:Str)(C:x7!)(ps:q!)(g:WF):Prop:=
 mg x=some ay_/\∃ae fd,Mk K C ae/\Fq P w K mg base Qf k ae fd ps qn_/\Fc K fd ps []
def Ga(C:x7!)(n:Nat)(g:WF)(fs:WA):WE:=λρ M R=>fs ρ M λds M1=>h!+1=n/\∀p,M1 p=none->g (.fn p::ds) (Bg M1 p lh_) λd M2=>d=.non/\R E! M2
def c1d{K:yS!}{M1:Mh}{G1 H1:Hp}(sub:Bk G1 H1)(m1:zl!)(J:H1 x=none)(jr:H1 dx=none)(ne:dx≠x):
  XM M1 G1 H1 (Bg M1 x lh_) G1 ni_/\MR P w K (Bg M1 x lh_) G1 ni_:=by
 have ar:∀b o,H1 b=some o->upd tL_ x ni! b=some o:=λb o e=>by rw[bD (cN e J),bD (cN e jr)];exact e
 refine⟨⟨Bk.refl G1,λb o e=>ar b o (sub b o e),dr_,λb o e _=>ar b o e,bo_,bo_⟩,⟨λb q e=>?_⟩⟩
 .by_cases hb:b=x
  .subst hb;exact .inr J
  .rw[bs_]at h;exact .inl h
 .by_cases hb:b=x
  .subst hb;rw[mup_same];simp
  .rw[bs_];exact h
 .by_cases hb:b=x
  .show"#)";exact⟨sub.free J,dx,[],cC,.nil⟩
  .rw[bs_]at e;obtain⟨Y,L⟩:=m1.cell b q e;refine⟨Y,L.mono (Bk.refl G1) ?_⟩;cases hq:H1 b with
   |none=>exact absurd hq L.has
   |some o=>exact ar b o hq
def a3v{k:Nat}{x:Str}{ps:q!}{g:WF}(F:AA!)(hr:gH_)(hg:Y_)(ha:hT!)
  (bg:F_:=by decide)(he:az!:=by rfl)(a7:a6_:=by rfl):ME X own bB_ (Ga C ps.length g fs):=by
 obtain⟨hm,ae,fd,Y,L,h3⟩:=F;refine fB (c4x Y L hr hg hm h3 .nil xE ha.ok bg he a7) λZ G H Q ρ M R st e' k=>⟨G,ρ,M,_,st,e',λds M1 vs G1 H1 r1 x1 m1 q1=>λy dx hy jr ne=>?_⟩;obtain⟨z1,z2⟩:=c1d (C:=C) x1.sub m1 hy jr ne;rw[IR];exact⟨by rw[IE,<-aL q1];exact r1.1,G1,.fn y::ds,_,_,z1.sub,z2,An.cons Ax.fn q1,r1.2 y (m1.nocell hy),λd M2 v G2 H2 r2 x2 m2 q2=>by
  obtain⟨rfl,r2⟩:=r2;exact⟨eH q2,k _ M2 _ G2 H2 r2 ((x1.trans z1 m1).trans x2 z2) m2 Ax.fn⟩⟩
def mT{k:Nat}{x:Str}{ps:q!}{g:WF}(F:AA!)(hr:gH_)(hg:Y_)
  (bg:F_:=by decide):ME X own tZ! (Ga C ps.length g Af):=by
 obtain⟨hm,ae,fd,Y,L,h3⟩:=F;refine fB (c0a Y L hr hg hm h3 .nil xE bg) λZ G H Q ρ M R st e' k=>λy dx hy jr ne=>?_;obtain⟨z1,z2⟩:=c1d (C:=C) st.or.sub st.mr hy jr ne;have r1:[].length+1=V_/\∀p,M p=none->g (D.fn p::[]) (Bg M p lh_) λd M2=>d=.non/\R E! M2:=e';exact⟨r1.1,G,[.fn y],_,_,z1.sub,z2,An.cons Ax.fn An.nil,r1.2 y (st.mr.nocell hy),λd M2 v G2 H2 r2 x2 m2 q2=>by
  obtain⟨rfl,r2⟩:=r2;exact⟨eH q2,k _ M2 _ G2 H2 r2 (z1.trans x2 z2) m2 Ax.fn⟩⟩
def Bx(N:q!)(n:Nat)(q:WS):WF:=λds M R=>h!=n/\q hs_ M λr M'=>match r with|.rt d=>R d M'|.nx _=>R .non M'
end
def wD{K:yS!}{mg:z!}{st:Stmt}{ps:q!}{k:Nat}{hx:l!}{q:WS}
  (F:xv_)(S:d9_)
  (hb:∀(ag:x5!) (A:x6!) (outer:ax!) (s:yR!) (H:Hp) (E:XK),Al k o3_->Vm (o4!).nox [] hx bQ_ q):
  Fq P w K mg base Qf V! ae fd ps (Yc P w K ps.length li_):=by
 refine xw!;obtain⟨hl,G,ds,M,R,sub,m,r,e,kk⟩:=h;refine⟨_,(xw_).ok M G H,?_⟩;have er:=a6d (N:=N) sub r;exact⟨G,_,M,_,⟨⟨er,m,as!⟩,.refl sub,as!⟩,e.2,λρ' M' G' σ H' r sr=>kk _ M' _ G' H' r sr.x sr.st.mr Ax.non,λd M' v G' H' r x m q=>kk d M' v G' H' r x m q⟩
section
variable{P:yp!}{w:xV!}{A:x6!}{E:Value->Shared->Prop}{s:yR!}{d it:x7!}{es:List DictEntry}{ep i:Nat}
def Pi.at{h h':Heap}(D:Pi h d es ep)(e:∀o,h.get? d=some o->h'.get? d=some o):Pi h' d es ep:=let⟨o,ho,r⟩:=D;⟨o,e o ho,r⟩
def c1v{Q:q_}(hd:AB_)(D:qp_)
  (h:Q c6_ {s with heap:=s.heap.push {cls:=.type "dict_keyiterator",data:=.fields #[.ref d,.int 0 0,.int es.length 0,.int ep 0]}}):wpAny G_ A (pyIter (.ref d)) Q E s:=by
 have hT:=D.typeIs;obtain⟨o,ho,hc,VV⟩:=id D;refine wpAny_pyIter_slot hT PySem.F.slot_dict_iter (JP PySem.F.slot_dict_iter hT PySem.F.entry_dict_iter ?_ (PySem.F.args_dict_iter_1 _));unfold Builtin.«dict.__iter__» Builtin.Dict.dictSlotNone;refine HI pV!;show wpAny G_ A.in1 (Builtin.Dict.showsAll d>>=_) _ _ s;unfold Builtin.Dict.showsAll;rw[HP (by rw[hd];exact IN)];refine HI (HK (HI (LX ho VV (HI (LZ ho VV (HI (KO (HK ⟨_,rfl,"dict_keyiterator",_,pg!,KN.lookup,?_⟩))))))));simpa[rawInt]using h
def a7o{Q:fA!}{e:DictEntry}(be:AE!)(D:qp_)(J:es[i]?=some e)
  (h:∀h',h'.IsKeyIter it d a5! es.length ep->Heap.SameBut it s.heap h'->Q (some e.key) {s with heap:=h'}):wpAny G_ A iH_ Q E s:=by
 show"!Y";obtain⟨am,me⟩:=IL.mp J;show"#/"
 first|refine HI (MU hT lj_)|refine HI (OH hT lj_)
 show"!V";refine HI AJ!;rw[W_];refine HK ?_;simp only[AJ_,JK,NJ,MB,J];refine HI ?_
 first|refine HI (MU hT AK!)|refine HI (OH hT AK!)
 show wpAny G_ A.in1 (setField b4! 1 AK_>>=_) _ _ s;have mf:(s.heap.update it AL!).IsKeyIter it d a5! es.length ep:=
  ⟨_,NU _ ho (Obj.isFreed_of_fields (QF hd _)),(xY!).trans hc,by rw[QF hd];simp[rawInt]⟩
 refine HI (RH ho hd d! (HI (JO (HI (QZ (s:={s with heap:=s.heap.update it AL!}) mf.typeIs ?_)))));exact HK (HK ⟨_,rfl,HK (h _ mf eu!)⟩)
def b4w{Q:fA!}(hh:dc!)(be:AE!)(D:qp_)(J:aj!<=i)
  (h:∀h',Heap.ExtBut it s.heap h'->Q none {s with heap:=h'}):wpAny G_ A iH_ Q E s:=by
 show"!Y";show"#/"
 first|refine HI (MU hT lj_)|refine HI (OH hT lj_)
 show"!V";refine HI AJ!;rw[W_];refine HK ?_;simp only[AJ_,JK,NJ,MB,JW J];refine HI ?_
 first|refine HI (MU hT ac_)|refine HI (OH hT ac_)
 show wpAny G_ A.in1 (setField b4! 0 .none>>=_) _ _ s;refine HI (RH ho hd d! ?_);refine HI ?_;simp only[newExc,newTuple];refine HI (KO (HI (m:=xZ!) (wpAny_of_eq (a:=dF!) xZ_ (KO ?_ kv_))) kv_);simp only[raiseNew];refine HI x0!;rw[x0_];refine HI x1!;refine HI (wpAny_isInstance (T:=yi!) (b:=true) (show Shared.TypeIs _ _ _ from pg!) isSubtype_stop ?_);exact HK (h _ x2!)
def b5o(hh:dc!)(I d:x7!)(b8:d≠I)(es:ae!)(ep:Nat):Walks P w A I [I,d] [I] es.length qr! (λi h=>h.IsKeyIter I d i es.length ep/\Pi h d es ep) where
 sub:=λb hb=>by simp at hb;simp[hb]
 frame:=λ_ _ _ st hk=>⟨st.1.at λo e=>hk I d! o e,st.2.at λo e=>hk d d! o e⟩
 item:=λi s Q E hi st hQ=>by
  refine a7o st.1 st.2 (II hi) λh' mf b6=>?_;exact hQ _ h' s.toks ⟨_,II hi,rfl⟩ ⟨mf,st.2.at λo e=>(b6.2 d b8).trans e⟩ λb o hb e=>(b6.2 b gr!).trans e
 done:=λs Q E st hQ=>b4w hh st.1 st.2 y! λh' cp=>hQ h' s.toks λb o hb e=>cp b o gr! e
 self:=λ_ _ _ _ st hQ=>wpAny_pyIter_keyiter st.1 hQ
def d0u{es ay:ae!}{bd:Nat}(D:Pi h d es ep)(D':Pi h d ay bd):es=ay/\ep=bd:=by
 obtain⟨o,Y,_,L⟩:=D;obtain⟨o',h3,_,h4⟩:=D';rw[Y]at h3;cases h3;rw[L]at h4;injection h4 with h5 h6
 exact⟨by simpa using congrArg Array.toList h5,h6⟩
def GL(d:x7!)(ep n:Nat):It:=⟨λi H=>∃es e x,H d=some dB_/\aj!=n/\es[i]?=some e/\Bu x e.key,λi H x H'=>H'=H/\∀es,H d=some dB_->∃e,es[i]?=some e/\Bu x e.key,λi H=>∃es,H d=some dB_/\aj!=n/\n<=i⟩
def a5j{P:yp!}{w:xV!}{H:Hp}{es:ae!}(hok:bv!)(e:H d=some dB_):Pi h d es ep:=by obtain⟨⟨h3,_⟩,_⟩:=(show Fg P w H h d dB_ from hok d _ e);exact h3
def b8g{P:yp!}{w:xV!}{K:yS!}{tg:Expr}{n:Nat}(d it:x7!):Tk P w K tg (GL d ep n) [it] it (λi h=>h.IsKeyIter it d i n ep) where
 mem:=by simp
 obj:=λi h st b hb=>by
  have e:b=it:=by simpa using hb
  subst e;show"##"
 keep:=λi h h' st k=>st.at λo e=>k it d! o e
 item:=by
  intro X hP hw hK hc i h1 s Z H E I hf st hg;subst hP hw hK;obtain⟨es,e,x,hH,hl,J,rx⟩:=hg;have D:=a5j I.hok hH;obtain⟨f0,f1,f2,f3,f4,f5⟩:=hf it d!;subst hl;refine a7o st D J λh' h2 sb=>?_;have I1:Inv X h1 Z H {s with heap:=h'}:=I.turned (t':=s.toks) sn_ f0 f1 f3 f4 f5;obtain⟨o,eo,c,dd⟩:=id h2;exact⟨_,rfl,c2b (s:=mD_) eo c dd b_ ⟨x,H,I1,rx,⟨rfl,λay hy=>by
   obtain⟨rfl,_⟩:=d0u D (a5j I.hok hy);exact⟨e,J,rx⟩⟩,h2,λb hb=>(pp!).1⟩⟩
 done:=by
  show"!/";obtain⟨es,hH,hl,J⟩:=hg;show"!2";subst hl;exact b4w bL! st (a5j I.hok hH) J λh' eb=>mF!
 self:=λ_ _ _ _ _ st h=>wpAny_pyIter_keyiter st h
end
section
variable{X:Cx}{own:List Nat}{a tg:Expr}{fa:WE}
def Iw(f:WE):WI:=λρ M T=>f ρ M λd M1=>Dz hV! λq=>T h3_ (λM=>M q.1=some p5!) M1
def a3s(h:aE!):MI X own tg a (Iw fa):=⟨by
 intro h1 s Z H R I ⟨G,ρ,M,T,st,e,k⟩;refine h.run I st e λd M1 v G1 H1 u s1 r1 x1 m1 q1 I1 rx=>?_;obtain⟨⟨p,kvs,ep⟩,e1,r2⟩:=dB r1;obtain⟨rfl,rfl,hM⟩:=cM q1 e1;cases rx;obtain⟨es,Y,L,h3,h4,h5,h6⟩:=eM I1 m1 x1.sub hM;have ap:aE_=aj!:=MQ L.1;refine c1v h4 h3 ⟨D!,[D!],_,GL p ep aj!,H1,rfl,mG_,b8g p _,eW_,bz!,k _ _ M1 _ G1 H1 r2 x1 m1 λi M' G' H' s2 s3 m' ck=>?_⟩
 .have e:b=D!:=by simpa using hb
  show"!p"
 .obtain⟨_,ay,g1,g2⟩:=m'.cell p _ ck;have hlen':aE_=ay.length:=MQ g2.1;refine⟨eq!,λhi=>⟨ay,g1,v!,by rw[hi,IK];show aj!<=aE_;omega⟩⟩;rw[JC]at hd;obtain⟨q,hq,rfl⟩:=HU.mp hd;obtain⟨e',cp,⟨v,r1,rv⟩,_,_⟩:=gP g2.1 hq;refine⟨⟨ay,e',v,g1,v!,cp,rv⟩,hn_⟩;obtain⟨z1,z2⟩:=hy;subst z1;obtain⟨e2,wv,rx⟩:=z2 ay g1;rw[cp]at wv;cases wv;rw[rx.inj rv];exact⟨G',Co.refl s3,r1⟩⟩
end
section
variable{X:Cx}{h1:List (Addr×Obj)}{Z:St}{H:Hp}{s:yR!}
def kG{L:Heap}{t':Nat}{wr:aw_}(I:d_)(hf:∀b∈wr,Ji X h1 H b)(kp:∀c o,c∉wr->s.heap.get? c=some o->L.get? c=some o):Inv X h1 Z H {s with heap:=L,toks:=t'}:=by
 refine I.step (g':=s.gens) (d':=s.drawn) (t':=t') (ch:=wr) hC_ pl! pl_ ir_ pm! is! is_ pm_ it_ hD! I.bare
 .obtain⟨f0,f1,f2,f3,f4,f5⟩:=hf c hc;exact⟨f3,f1,f4,f5⟩
 .obtain⟨o,es,ep,ho,r⟩:=hm;exact⟨o,es,ep,kp _ o (λz=>(hf _ z).2.1 rfl) ho,r⟩
 .refine(pn!).stay pn_ po! λ_ _ e'=>e';have hn:=(hf d hm).1;obtain rfl|hd:=hd
  .rw[hn]at e;cases e
  .rw[hn]at hd;cases hd
def c8i{s0:yR!}{xs:n_}{us:i_}(I:Inv X h1 Z H s0)(I1:d_)(hT:AO!<=T)(eT:s.heap.IsTuple T cD!)(rv:ig_)(hz:m_<=sizeLine):Inv X h1 Z (upd H T bI!) s:=by
 have ue:H T=none:=I.hok.fresh hT;have ne:∀c o,H c=some o->c≠T:=λc o e=>cN e ue;refine Inv.step (g':=s.gens) (d':=s.drawn) (t':=s.toks) (h':=s.heap) (ch:=[T]) I1 hC_ yp_ yq! yq_ yr!
  (yr_) ys! ys_ n4_ hD! I1.bare
 .have e:c=T:=by simpa using hc
  subst e;obtain⟨_,g1,_,g3,g4,g5⟩:=I.fpOk hT ue;exact⟨g3,g1,g4,g5⟩
 .rw[n5!];exact n
 .by_cases hb:c=T
  .show"!y";exact⟨hz,us,rv,eT⟩
  .rw[bD hb]at e;exact(yt!).stay n5_ yt_ λd xs q=>by rw[pp_];exact q
end
def GK(x:Str):It:=⟨xL_,λi H v H'=>∃T c,v=.ref T/\H T=none/\x.cps[i]?=some c/\H'=upd H T (.tup [cu!,gQ!]),xM!⟩
def a9z{K:yS!}{jp:bK!}{n1:Nat}{tp:Pos}{x:Str}{St':dR_}(qk:e≠it)(hd:xN_)
  (D:∀A':Around,pc!=none->Draws P w A' it [it] x.cps.size AP_ St'):
  Tk P w K fA_ (GK x) [e,it] e (λi h=>i<=fx_/\(∃ar,IsEnum h e it i ar)/\St' i h) where
 mem:=by simp
 obj:=λi h st b hb=>by
  simp only[HN,JF,KY]at hb;obtain⟨_,⟨ar,s1⟩,s2⟩:=st;obtain rfl|rfl:=hb
  .exact⟨_,s1,jN_⟩
  .exact hd i h s2
 keep:=λi h h' st k=>by
  have W:=WalksT.enumerateD (A:=callerA) (D callerA.in1 rfl) e qk qt! d!;exact⟨st.1,W.frame i h h' st.2 λb hb o q=>k b gr! o q⟩
 item:=by
  intro X hP hw hK hc i h1 s Z H E I hf st hg;subst hP hw hK;have hh:=I.ok.hd hc;have W:=WalksT.enumerateD (A:=X.A) AQ_ e qk qt! d!;refine W.item i s _ _ hg st.2 λT yx h' tk hP hT Z2 hm kp=>⟨_,rfl,W.go jp n1 tp i T _ _ _ hm λL bh VW=>?_⟩;obtain⟨t,y,⟨c,u,j5,rfl⟩,rfl⟩:=hP;have Z3:∀b∈[e,it],Ji X h1 H b:=hf;have I1:Inv X h1 Z H {s with heap:=L,toks:=tk}:=kG I Z3 λc o hc eo=>VW c o hc (kp c o hc eo);have VX:T∉[e,it]:=W.apart i T _ hm;have eT:L.IsTuple T #[.int i t,.str ar! u]:=by
   obtain⟨o,eo,r⟩:=Z2;exact⟨o,VW T o VX eo,r⟩
  have I2:=c8i (us:=[.int i t,.str ar! u]) (xs:=[cu!,gQ!]) I I1 hT eT (.cons gX_ (.cons ⟨u,rfl⟩ .nil)) (by show 2<=sizeLine;rw[JV];decide);refine⟨.ref T,_,I2,rfl,⟨T,c,rfl,I.hok.fresh hT,j5,rfl⟩,⟨hg,bh⟩,bz!⟩;rw[bD (λz:b=T=>VX (by rw[<-z];exact hb))];exact(pp!).1
 done:=by
  show"!/";have hh:=I.ok.hd hc;have W:=WalksT.enumerateD (A:=X.A) AQ_ e qk qt! d!;show"#E";exact W.done s _ _ st.2 λh' tk kp=>⟨rfl,kG I hf kp⟩
 self:=λA i s Q E st h=>by
  obtain⟨_,⟨ar,s1⟩,_⟩:=st;exact wpAny_pyIter_enum s1 h
section
variable{X:Cx}{own:List Nat}{a:Expr}{jp:List Expr}{n1:Nat}{tp p pos:Pos}{fa:Ae->Option D}
def Td(f:e!):Ae->Option aR_:=λρ=>(an_).bind λd=>match d with|.str x=>some (x.cps.toList.zipIdx.map λq=>.tup AS_)|_=>none
def c2t(hg:Gl X "enumerate")(hm:X.mg "enumerate"=none)(h:aa!)(hs:starEach [a] X.env=dT!::starEach [] X.env:=by rfl)(a7:(nl!).any c_=false:=by rfl):
  DI X own fA_ (.Call (.Name "enumerate" p) [a] [] pos) (Td fa):=⟨by
 intro h1 s Z H R I ⟨G,ρ,ds,er,e,k⟩;obtain⟨d,e1,e2⟩:=HJ.mp e;cases d<;>first|(cases e2;done)|skip
 rename_i x;cases e2;refine Call_ (kU I hg hm boot_enumerate (LM (dM (dZ h.ok gQ hs pos h1 s Z H (λvs H1=>∃v G1,vs=[v]/\Co G H G1 H1/\Ax X.K G1 dL! v) I ⟨G,ρ,_,er,e1,λv G1 H1 x1 r1=>⟨v,G1,rfl,x1,r1⟩⟩) λus s1 ⟨vs,H1,I1,r1,v,G1,q1,x1,rr⟩=>?_) hs a7));subst q1;cases cI rr;obtain⟨u,rfl,t,rfl⟩:=uI r1;refine call_enumerate_str λh' he be hsz hk=>?_;refine wpAny_pyIter_enum he ?_;have I2:Inv X h1 Z H1 {s1 with heap:=h',toks:=s1.toks}:=I1.kept (t':=s1.toks) hk;have oi:∀b∈[D!+1,D!],D!<=b:=λb hb=>by
  simp only[HN,JF,KY]at hb;obtain rfl|rfl:=hb<;>omega
 have fin:∀{St':dR_},St' 0 h'->(∀i h,St' i h->∃o,h.get? D!=some o/\∀v,o.data≠.cell v)->(∀A':Around,pc!=none->Draws X.prog X.w A' s1.heap.objs.size [D!] x.cps.size AP_ St')->
   DU X h1 Z fA_ R (.ref (D!+1)) {s1 with heap:=h'}:=λ{St'} h0 hd D=>by
  refine⟨_,_,_,GK x,H1,rfl,I2,a9z (Nat.succ_ne_self _) hd D,⟨JS _,⟨_,he⟩,h0⟩,λb hb=>I1.fpOk (oi b hb) (I1.hok.fresh (oi b hb)),k _ G1 H1 x1 ?_⟩;intro i G' H' g1 g2;refine⟨eq!,λhi=>by rw[IK,List.length_zipIdx,JU]at hi;exact PD hi.symm⟩;rw[JC,List.getElem?_zipIdx]at hd;obtain⟨q,hq,rfl⟩:=HU.mp hd;obtain⟨c,hc,rfl⟩:=HU.mp hq;rw[ND]at hc;refine xN!;obtain⟨T,c',rfl,hT,bv,rfl⟩:=hy;rw[hc]at bv;cases bv;refine⟨_,Co.laid g2 hT,fZ (g2.free hT) (An.cons ?_ (An.cons Ax.str An.nil))⟩;rw[RJ];exact Ax.int
 cases ha:x.cps.all (·<128)
 .have mf:h'.IsStrIter s1.heap.objs.size "str_iterator" x t 0:=by simpa[strIterType,ha]using be
  exact fin (St':=λi h=>h.IsStrIter s1.heap.objs.size "str_iterator" x t i) mf AT_ λA' hh=>Draws.strWide hh _ x t
 .have mf:h'.IsStrIter s1.heap.objs.size "str_ascii_iterator" x t 0:=by simpa[strIterType,ha]using be
  exact fin (St':=λi h=>h.IsStrIter s1.heap.objs.size "str_ascii_iterator" x t i) mf AT_ λA' hh=>Draws.strAscii hh _ x t⟩
def Sv(a:Int)(n:Nat):List D:=(oT_).map λi=>.int (a+(i:Nat))
def Tc(f g:e!):Ae->Option aR_:=λρ=>(an_).bind λx=>(g ρ).bind λy=>match x,y with|.int i,.int j=>if -1000<=i/\i<=100000/\-1000<=j/\j<=100000 then some (Sv i (j - i).toNat)else none|_,_=>none
end
end DL
namespace HT
open PySem PySem.Spec PyProof.Rows
def b8w(A:x6!)(s:yR!)(a:Int)(t:Tok)(c:Int)(u:Tok)(prog:yp!)(w:xV!)(E:q_)(Q:q_)(h:Q (.bool (decide (c<a))) s):
  wpAny r_ A (richCompare .Gt gM! nr!) Q E s:=
 (PyProof.Rows.gt_int h:wpAny r_ A (compareOp .Gt gM! nr!) Q E s)
section
open PySem.SeqAt
open PySem.AutoSeq1 (wpAny_loadPart')
open PySem.MeetsSeq PySem.MeetsSeq2 PySem.MeetsSeq3
def zC(l b:x7!)(items ju:af!)(n n2:Nat)(dd lj:a7_)(sl ji:b6_)(ns ms:w_)(hi:AV!)(hj:AV_):
  Meets (Builtin.«tuple.__gt__» ⟨[.ref l,.ref b],[]⟩)
   (λ_ R s=>s.heap.get? l=some {cls:=.type "tuple",dict:=dd,data:=.seq items n,slots:=sl}/\s.heap.get? b=some {cls:=.type "tuple",dict:=lj,data:=.seq ju n2,slots:=ji}/\
    R (.ok (.ret qu!)) s):=
 .of_wp λprog w A R s h=>by
  obtain⟨hp,g,d,tk,os⟩:=s;obtain⟨hl,hb,h⟩:=h;have f2:=AutoSeq1.sub_tuple_tuple;have z1:dd_=c9!:=by rw[<-hi.length];simp
  have z2:ju.size=eE_:=by rw[<-hj.length];simp
  wp_walk using QX hl,QX hb,QQ _ (λrest b s'=>b.1=none/\s'=hB!/\∃(vs ws:i_) (ql qm:w_),rest=vs.zip ws/\
   IntsAre vs ql/\IntsAre ws qm/\ql.length+ju.size=qm.length+dd_/\R (.ok (.ret (.bool (lexLt qm ql)))) hB!) _
  case turn=>
   rintro⟨y,x⟩ rest b s' ⟨dr,rfl,vs,ws,ql,qm,hz,zq,xb,ap,hR⟩;cases zq with
   |nil=>rw[List.zip_nil_left]at hz;cases hz
   |cons a t Z4=>
    cases xb with
    |nil=>rw[List.zip_nil_right]at hz;cases hz
    |cons c u Z5=>
     rw[PF]at hz;injection hz with Z6 Z7
     injection Z6 with hy J
     subst hy J;rw[lexLt_cons]at hR;simp only[IE]at ap;obtain⟨e,he,VY⟩:=c2k A.in1 hB! a t c u;refine HI (he prog w _ _ ?_);cases e with
     |true=>
      rw[HY (VY.mp rfl).symm]at hR
      wp_walk
      exact⟨rfl,rfl,_,_,_,_,Z7,Z4,Z5,v!,hR⟩
     |false=>
      rw[HP (λq=>absurd (VY.mpr q.symm) IN)]at hR;have Z8:=b8w A.in1 hB! a t c u prog w
      wp_walk using Z8
      exact⟨_,rfl,by simpa using hR⟩
  case fin=>
   rintro⟨b1,b2⟩ s' ⟨dr,rfl,vs,ws,ql,qm,hz,zq,xb,ap,hR⟩;simp only at dr;subst dr;have hv:lexLt qm ql=decide (ju.size<dd_):=by
    cases zq with
    |nil=>
     cases xb with
     |nil=>
      simp only[LP]at ap;rw[lexLt_nil_nil];exact(IF a!).symm
     |cons c u hw=>
      simp only[LP,IE]at ap;rw[xX];exact(IF a!).symm
    |cons a t hv=>
     cases xb with
     |nil=>
      simp only[LP,IE]at ap;rw[xW];exact(IV a!).symm
     |cons c u hw=>
      rw[PF]at hz;cases hz
   rw[hv]at hR
   wp_walk
   exact⟨_,rfl,by simpa[Builtin.Tuple.tupleCompareSizes]using hR⟩
  case h=>
   exact⟨rfl,rfl,items.toList,ju.toList,ns,ms,rfl,hi,hj,v!,h⟩
end
section
variable{prog:yp!}{w:xV!}{A:x6!}{E:Value->Shared->Prop}{s:yR!}
def gt_tupInts{b:x7!}{items ju:af!}{ns ms:w_}{Q:q_}(hl:IsTup s.heap l items)(hb:IsTup s.heap b ju)(hi:AV!)(hj:AV_)
  (hu:at!)(h:Q qu! s):wpAny r_ A (compareOp .Gt jr! d4!) Q E s:=by
 obtain⟨⟨cls,dd,data,sl⟩,ho,hc,n,hd⟩:=id hl;obtain⟨⟨UL,lj,data2,ji⟩,jj,ir,n2,jk⟩:=id hb;simp only at hc hd ir jk;subst hc hd ir jk;exact richCompare_meets_room (op:=.Gt) jd! jd_ PySem.F.slot_tuple_gt PySem.F.entry_tuple_gt (PySem.F.args_tuple_gt_2 _ _) (zC l b items ju n n2 dd lj sl ji ns ms hi hj)
  ⟨ho,jj,show Value.bool (lexLt ms ns)≠Value.notImplemented/\Q qu! s from⟨(λx=>nomatch x),h⟩⟩ hu
end
end HT
namespace DL
open PySem PySem.Spec PyProof.Rows L2
section
variable{X:Cx}{own bj:List Nat}{a b e tg o:Expr}{es:List Expr}{p pos:Pos}{fa fb f:Ae->Option D}
def CB(K:yS!):R2:=λx y H Q=>∃a b ns ms,x=.ref a/\y=.ref b/\Gf K H a b7_/\Gf K H b (ms.map V.int)/\Q (.bl qu_) H
def c9e(hu:X.A.units<cLine):Gx X sQ! (CB X.K):=by intro h1 s Z H x y v u Q I rx ry h;obtain⟨a,b,ns,ms,rfl,rfl,ha,hb,q⟩:=h;cases rx;cases ry;obtain⟨its,r1,p1,_⟩:=I.tuple ha;obtain⟨gu,r2,p2,_⟩:=I.tuple hb;have i1:IntsAre its.toArray.toList ns:=yM r1;have i2:IntsAre gu.toArray.toList ms:=yM r2;exact HT.gt_tupInts p1 p2 i1 i2 hu ⟨.bl qu_,H,I,rfl,q⟩
def Nl:List D->Option (List Int)
 |[]=>some []
 |.int i::r=>(Nl r).map (i::·)
 |_=>none
def nR{K:yS!}{G:Hp}:∀{ds:c!} {vs:n_} {ns:w_},An K G ds vs->Nl ds=some ns->vs=ns.map V.int
 |[],vs,ns,r,e=>by cases cS r;cases e;rfl
 |d::ds,vs,ns,r,e=>by
  obtain⟨v,t,rfl,r1,r2⟩:=bR r;cases d<;>simp only[Nl]at e<;>first|(cases e;done)|skip
  obtain⟨l,e1,rfl⟩:=HU.mp e;rw[nR r2 e1];cases bG r1;rfl
def BE:D->D->Option D
 |.tup xs,.tup ys=>(Nl xs).bind λns=>(Nl ys).map λms=>.bl qu_
 |_,_=>none
def c9m{K:yS!}:Im K (CB K) BE:=by
 show"!0";unfold BE at e;show"!6"
 .obtain⟨ns,e1,e⟩:=HJ.mp e;obtain⟨ms,e2,rfl⟩:=HU.mp e;show"!S";obtain⟨b,ws,rfl,qb,rb⟩:=bS ry;rw[nR ra e1]at qa;rw[nR rb e2]at qb;exact⟨a,b,ns,ms,rfl,rfl,j5!,oC_,ep_⟩
 .cases e
def AG(neg:Bool):R2:=λx y H Q=>∃b c,x=.bl b/\y=.bl c/\Q AW! H
def c0i:Gx X sR_ (AG false):=by
 intro h1 s Z H x y v u Q I rx ry h;obtain⟨b,c,rfl,rfl,q⟩:=h;cases rx;cases ry;refine wpAny_is_plain rfl ?_;have e:AW_=(b==c):=by cases b<;>cases c<;>rfl
 rw[e];exact kn_
def b6p:Gx X sS_ (AG true):=by
 intro h1 s Z H x y v u Q I rx ry h;obtain⟨b,c,rfl,rfl,q⟩:=h;cases rx;cases ry;refine wpAny_isNot_plain rfl ?_;have e:AW_=(b==c):=by cases b<;>cases c<;>rfl
 rw[e];exact kn_
def Yd(neg:Bool):D->D->Option D
 |.bl b,.bl c=>some AW!
 |_,_=>none
def b1j{K:yS!}{neg:Bool}:Im K (AG neg) (Yd neg):=by
 show"!0";unfold Yd at e;show"!6"
 .cases e;cases dA rx;cases dA ry;exact pq!
 .cases e
def b7o(hg:iL_)(hm:iL!)(ha:aa!)(hb:cG_)(hs:sw_:=by rfl)(bq:sx!:=by rfl)
  (dh:starEach (a::[b]) X.env=dT!::starEach [b] X.env:=by rfl)(jo:starEach (b::[]) X.env=iM_::starEach [] X.env:=by rfl):DI X own tg sx_ (Tc fa fb):=
 a9a (b6j hg hm (dZ ha.ok (dZ hb.ok gQ jo) dh) hs bq) λZ G H R ρ ds er e k=>by
  obtain⟨x,e1,e3⟩:=HJ.mp e;obtain⟨y,e2,e4⟩:=HJ.mp e3;clear e e3;split at e4
  .rename_i i j;split at e4
   .rename_i h;cases e4;refine yx!;cases bG r1;cases bG r2;refine⟨i,j,rfl,v!,k _ G2 H2 dp! ?_⟩;intro n G' H' g1 g2;unfold Sv;refine w9_;rw[JC]at hd;obtain⟨m,hj,rfl⟩:=HU.mp hd;obtain⟨hl,he⟩:=IL.mp hj;rw[PH]at he;subst he;rw[MF]at hl;refine⟨hl,hn_⟩;obtain⟨z1,z2⟩:=hy;subst z1 z2;exact⟨G',Co.refl g2,Ax.int⟩
   .cases e4
  .cases e4
def Yl:V->List V->Hp->VK->Prop:=λx vs H Q=>∃l xs k y,x=.ref l/\vs=[.int (k:Nat),y]/\H l=some T!/\k<=m_/\m_<sizeLine/\Q .non (upd H l (.lst (xs.take k++y::xs.drop k)))
def b6z:FJ X "list.insert" Yl:=by
 intro h1 s Z H x vs v us Q I rx rv h;obtain⟨l,xs,k,y,rfl,rfl,hH,hk,hz,q⟩:=h;cases rx;obtain⟨u,u2,rfl,⟨t,rfl⟩,ru⟩:=b2r rv;obtain⟨z,its,n,r,hl,e⟩:=I.lstM hH;have yu:¬(!Builtin.List.listFitsIndex (k:Int))=true:=by
  rw[fitsIndex_both (Int.le_trans b_ (Int.natCast_nonneg k)) (Int.lt_of_le_of_lt (Int.ofNat_le.mpr (JB hk (MX hz))) wQ!)];exact IN
 have hsz:bO!<=sizeLine:=by rw[HS];omega
 refine call_meets (S:=?S) PySem.F.slot_list_insert d8! PySem.F.entry_list_insert (PySem.F.args_list_insert_3 _ _ _) ?g ?h
 case g=>exact @PySem.AutoSeq1.list_insert_list_int_val_1 l its.toArray n (k:Int) t u2 yu hsz
 refine gU!;refine⟨.non,_,I.lset (its':=its.take k++u2::its.drop k) hH e ?_ ((r.take k).append (.cons ru (r.drop k))) ?_,rfl,q⟩
 .have Y:¬bg!<0:=by omega
  have L:min (bg!).toNat bO!=k:=by simp;omega
  simp only[Y,JK,L];simp[List.extract_eq_drop_take];rw[AY_]
 .simp only[IG,IE,QG,RL];omega
def Xe(i:Nat)(fk f:e!):Ae->Option Fl:=λρ=>(fk ρ).bind λx=>(an_).bind λd=>match x,ρ[i]? with
 |.int j,some (some (.lst ds))=>if 0<=j/\j.toNat<=h!/\h!<big then some (.nx (ρ.set i (some (.lst (ds.take j.toNat++d::ds.drop j.toNat)))))else none
 |_,_=>none
def b7n{i:Nat}{x:Str}{aj ah:Pos}{fk:e!}(bu:eh!:=by decide)(hk:DE X own ek fk)(h:do_)(hN:ak_:=by rfl)(hv:cs_:=by first|exact Or.inl rfl|exact Or.inr b!|exact Or.inr aH!)
  (hd:F_:=by decide)(bz:ct!:=by decide)
  (b9:starEach (ek::[e]) X.env=(false,eval ek X.env)::starEach [e] X.env:=by rfl)(Z9:hr!:=by rfl)(g7:((backTo ah (starEach [ek,e] X.env)).all cA!&&(cA_).all cB!
   &&decide ([ek,e].length+(d7!).length+fd!<30))=true:=by rfl) (g8:d7_:=by rfl)
  (gw:attributeBase br! "insert" X.env kf_=eval br! X.env:=by rfl) (g9:(jv!).any c_=false:=by rfl) (ke:swapsWith AZ! none pos.line X.env=pure false:=by rfl):
  DS X own own (.Expr AZ! pos) (Xe i fk f):=⟨λG0 F0 h1 s Z H E I ⟨G,ρ,r,er,e',k⟩=>by
  refine vV (a0m NZ PySem.F.slot_list_insert PySem.F.type_list_insert b6z jU_ (dZ hk.ok (dZ h.ok gQ Z9) b9) gw g7 g8 b9 g9) ke h1 s Z H E I ?_;obtain⟨z,e1,e4⟩:=HJ.mp e';obtain⟨d,e3,e2⟩:=HJ.mp e4;clear e' e4;obtain⟨p,ds,vs,Y,L,h3,h4,h5⟩:=er.or.own_ i bu;rw[Y]at e2;cases z<;>first|(cases e2;done)|skip
  rename_i j;simp only at e2;split at e2
  .rename_i hj;cases e2;refine⟨fv!,L,o1!,G,ρ,_,er.or,e1,λv G' H' x r=>⟨G',ρ,d,er.or.grow x,e3,λv2 G2 H2 x2 r2=>?_⟩⟩;cases bG r;have hl:=aL h5;refine⟨p,vs,j.toNat,v2,rfl,?_,xt_,v!,by rw[<-hl];exact IT hj.2.2 (cY y!),?_⟩
   .rw[Int.toNat_of_nonneg hj.1]
   .have h6:=(o1_).mono x2.g;exact k G2 Z _ (((hq_).grow x2).upd bu L (dG (sO _ h6) (An.cons r2 (sP _ h6))))
  .cases e2⟩
end
end DL
namespace DL
open PySem PySem.Spec PyProof.Rows L2
section
variable{X:Cx}{own bj:List Nat}{a b e tg o:Expr}{es:List Expr}{p p2 pos:Pos}{fa fb fo f:WE}{fs:WA}
def Xa(i:Nat)(f:WE):WS:=λρ M R=>f ρ M λd M1=>Dz (Os M1 d) λq=>match ρ[i]? with
 |some (some (.lst ds))=>h!+p5_<=big/\R (.nx (ρ.set i (some (.lst (ds++q.2))))) M1
 |_=>False
def b7b{i:Nat}{x:Str}{aj ah:Pos}(bu:eh!:=by decide)(h:bY!)(hN:ak_:=by rfl)(hv:cs_:=by first|exact Or.inl rfl|exact Or.inr b!|exact Or.inr aH!)
  (hd:F_:=by decide)(bz:ct!:=by decide)
  (b9:hr!:=by rfl)(g7:((jv!).all cA!&&(cA_).all cB!
   &&decide xo!)=true:=by rfl) (g8:d7_:=by rfl)
  (gw:attributeBase br! "extend" X.env kf_=eval br! X.env:=by rfl) (g9:hr_:=by rfl) (ke:swapsWith A0! none pos.line X.env=pure false:=by rfl):
  MS X own own (.Expr A0! pos) (Xa i f):=
 qM (vV (a0m NZ PySem.F.slot_list_extend PySem.F.type_list_extend b7a jU_ xp_ gw g7 g8 b9 g9) ke) λM0 G0 F0 E Z G H ρ M R sr e' k1 k2=>by
  obtain⟨p,ds,vs,Y,L,h3,h4,h5⟩:=sr.st.or.own_ i bu;refine⟨fv!,L,o1!,G,ρ,M,_,sr.st,e',Ao_⟩;obtain⟨⟨c,zs⟩,e1,r⟩:=dB r;obtain⟨z1,z2,z3,us,h6,h7⟩:=yY m q e1;cases z2;rw[Y]at r;have fg:=sr.grow x m;obtain⟨p',qe,gf,g1,g2,g3,g4,g5⟩:=fg.st.or.own_ i bu;rw[L]at g2;cases g2;rw[Y]at g1;cases g1;refine⟨p,c,gf,us,rfl,rfl,g3,h6,?_,k1 _ M' G' Z _ r.2 (fg.after (fg.sr.upd bu L (dG g5 h7)))⟩;have:=r.1;rw[<-aL g5,<-aL h7];exact cY this
def Ql(s0:Str)(fa:WE):WE:=λρ M R=>fa ρ M λy M2=>Dz (Nk (.str s0) y) λd=>R d M2
def b4j{s0:Str}{n0:Nat}{aj ah:Pos}(ha:aE!)
  (gw:attributeBase lm! "join" X.env (eval lm! X.env)=eval lm! X.env:=by rfl)
  (g7:((pe!).all cA!&&(cA_).all cB!
   &&decide pe_)=true:=by rfl)
  (g8:d7_:=by rfl) (hs:kb!:=by rfl) (g9:hr_:=by rfl):
  ME X own (.Call (.Attribute lm! "join" aj) [a] [] ah) (Ql s0 fa):=
 fB (a0m PySem.F.plainAttrs_str PySem.F.slot_str_join PySem.F.type_str_join b4h b9u xS! gw g7 g8 hs g9) λZ G H Q ρ M R st e k=>⟨rfl,G,ρ,M,_,st,e,λy M2 w G2 H2 r2 x2 m2 q2=>by
  obtain⟨d,e3,r3⟩:=dB r2;cases y<;>first|(cases e3;done)|skip
  rename_i xs;obtain⟨ys,e4,e5⟩:=HJ.mp (show((Qm xs).bind λys=>if(ku!).sum+ad!*s0.length<=big then some (.str (Txt.join s0 ys))else none)=some d from e3);split at e5
  .rename_i hl;cases e5;obtain⟨p,vs,rfl,q,rr⟩:=bT q2;have:=wZ rr e4;subst this;exact⟨_,p,ys,rfl,rfl,x2.sub.seq q,JB hl b_,k _ M2 _ G2 H2 r3 x2 m2 Ax.str⟩
  .cases e5⟩
def Ww(fs:WA)(fb:WE):WE:=λρ M R=>fs ρ M λds M1=>h!<=1000/\fb ρ M1 λy M2=>match y with
 |.int k=>(0<=k/\k<=1000/\h!*k.toNat<=1000)/\∀p,M2 p=none->R E! (Bg M2 p (.lst (List.replicate k.toNat ds).flatten))
 |_=>False
def c2h{G H:Hp}{p:x7!}{o:HO}(s:K_)(hp:cE_):Co G H G fm!:=⟨fm_,iS hp,s.trans (iS hp),dr_⟩
def a6s{K:yS!}{G:Hp}(r:ke!):∀k:Nat,An K G (List.replicate k ds).flatten (List.replicate k vs).flatten
 |0=>An.nil
 |k+1=>by
  rw[LN,LN,NH,NH];exact dG r (a6s r k)
def c5j(ha:hP!)(hb:cP!):ME X own (.BinOp (.List es p2) .Mult b pos) (Ww fs fb):=
 fB (b9w c9a (xC ha.ok) hb.ok) λZ G H Q ρ M R st e k=>⟨G,ρ,M,_,st,e,λds M1 vs G1 H1 r1 x1 m1 q1=>⟨by rw[<-aL q1];exact gJ r1.1,λp hp=>by
  have xj:Co G1 H1 G1 (upd H1 p dm_):=c2h x1.sub hp;have hM:M1 p=none:=m1.nocell hp;refine⟨G1,ρ,M1,_,(fO_).grow (.ext xj) (m1.ext xj),r1.2,λy M2 v G2 H2 r2 x2 m2 q2=>?_⟩;cases y<;>first|exact r2.elim|skip
  rename_i n;cases bG q2;obtain⟨⟨hn,iq,hl⟩,r2⟩:=r2;have Z':H2 p=some dm_:=x2.keep p _ cC hM;refine⟨p,n,vs,rfl,rfl,Z',v!,v!,by rw[<-aL q1];exact gJ hl,kC!⟩;have x12:=(x1.trans (.ext xj) m1).trans x2 (m1.ext xj);exact k _ _ _ G2 _ (r2 c (m2.nocell hc)) (x12.trans (.laid x2.sub hc) m2) (m2.laid hc x2.sub ⟨_,cC,a6s cm_ _⟩) Ax.fn⟩⟩
end
nonrec def rk(r:fU_)(xs:co_)(i:Nat):Int:=(xs[i]?.map r).getD 0
def b8t{r:fU_}{xs:co_}{c d:Nat}(hs:c<xs.size)(hd:d<=c)(k:Nat):rk r (bubble xs c d) k=if k=c - d then rk r xs c else if c - d<k/\k<=c then rk r xs (k - 1)else rk r xs k:=by
 unfold rk;rw[getElem?_bubble hs d hd k];split
 .rfl
 .split<;>rfl
def b0q{r:fU_}{xs:co_}{i j:Nat}(hj:j<=xs.size)(k:Nat):rk r A4! k=if i<=k/\k<j then rk r xs (i+j - 1 - k)else rk r xs k:=by unfold rk;rw[getElem?_mirror_all hj k];split<;>rfl
def qA{r:fU_}{xs:co_}{i j:Nat}(hj:j<=xs.size)(he:∀k,i<=k->k<j->rk r xs k=rk r xs eF_)(k:Nat):rk r A4! k=rk r xs k:=by
 rw[b0q hj];by_cases h:i<=k/\k<j
 .rw[HY h,he _ a! a!,he k h.1 h.2]
 .rw[HP h]
def Up(r:fU_)(xs:co_)(n:Nat):Prop:=∀i j,i<=j->j<n->rk r xs i<=rk r xs j
def Dn(r:fU_)(xs:co_)(n:Nat):Prop:=∀i j,i<=j->j<n->rk r xs j<=rk r xs i
structure SB(kd:SortKind)(a0:co_)(st:SortSt):Prop where
 pm:(A!).Perm a0
 kn:kindOf st=kd
 fl:failedOf st=none
 pd:pendingOf st=#[]
def SB.sz{kd:SortKind}{a0:co_}{st:SortSt}(h:cp!):(A!).size=a0.size:=h.pm.size_eq
def SB.put{kd:SortKind}{a0 xs:co_}{st:SortSt}(h:cp!)(hp:xs.Perm A!):SB kd a0 (setArr st xs):=⟨hp.trans h.pm,h.kn,h.fl,h.pd⟩
section
variable{prog:yp!}{w:xV!}{A:x6!}{E:Value->Shared->Prop}{s:yR!}{a0:Array Keyed}{kd:SortKind}{r:Keyed->Int}
variable (prog w A s a0 kd r)in
def Ur:Prop:=∀(x y:Keyed) (F:q_) (Q:ev_),x∈h6!->y∈h6!->Q (decide (r x<r y)) s->wpAny r_ A (keyLt' kd x.1 y.1) Q F s
def b8r{st:SortSt}{i j:Nat}{Q:Option Bool->SortSt->Prop}(hl:dC_)(b:cp!)(hi:i<a0.size)(hj:j<a0.size)(h:Q (some (decide (rk r A! i<rk r A! j))) st):wpS r_ A E s (ltAt' i j) Q st:=by
 have at_:∀k,k<a0.size->∃p,A![k]?=some p/\p∈h6!/\rk r A! k=r p:=λk hk=>by
  have cx:k<(A!).size:=by rw[b.sz];exact hk
  refine⟨A![k],A5!,(Array.perm_iff_toList_perm.mp b.pm).mem_iff.mp d!,?_⟩;unfold rk;rw[A5!];rfl
 obtain⟨x,ex,mx,rx⟩:=at_ i hi;obtain⟨y,ey,my,ry⟩:=at_ j hj;rw[rx,ry]at h;rw[ltAt'_eq];refine KF fV!;show wpS r_ A E s (elem' A! i>>=λx=>elem' A! j>>=λy=>lt' x y) Q st;rw[elem'_eq,elem'_eq,ex,ey];refine KF (LW (KF (LW ?_)));rw[lt'_eq];refine KF fV!;rw[b.kn];exact KF (wpS_lift (PK (hl x y _ _ mx my ⟨rfl,LW h⟩)))
def c7d{st:SortSt}{a n:Nat}{Q:AscSt->SortSt->Prop}(hl:dC_)(hn:fV_)(ha:1<=a)(han:a<=n)(b:cp!)(hu:Up r A! a)
  (h:∀m,a<=m->m<=n->Up r A! m->(m=n\/rk r A! m<rk r A! h6_)->Q (none,m) st):wpS r_ A E s (ascLoop a n) Q st:=by
 unfold ascLoop;refine QT (I:=λx c h2=>h2=st/\c=(none,x)/\Up r A! x) ?_ ?_ ⟨rfl,rfl,hu⟩
 .rintro x c h2 Y L ⟨rfl,rfl,u⟩;refine KF (b8r hl b (IT L hn) a! ?_);by_cases q:rk r y_ x<rk r y_ h7_
  .rw[IV q];exact LW (h x Y (MX L) u (.inr q))
  .rw[IF q];refine LW ⟨rfl,rfl,A7_⟩;obtain h5|h5:=LK j x
   .exact u i j h3 h5
   .have:j=x:=by omega
    subst this;obtain h6|h6:=LK i j
    .have:=u i eF_ a! a!;omega
    .have:i=j:=by omega
     rw[this];exact KW _
 .rintro c h2 ⟨rfl,rfl,u⟩;rw[show max a n=n by omega]at u ⊢;exact h n han y! u G!
def b8o{st:SortSt}{m n:Nat}{Q:qz!}(hl:dC_)(hn:fV_)(Y:1<=m)(hm:m<=n)(b:cp!)(hd:Dn r A! m)
  (h:qz_):wpS r_ A E s (tail3 m n) Q st:=by
 unfold tail3;have b':SB kd a0 (setArr st (mirror A! 0 m ((m - 0) / 2))):=b.put ln!;have hz:m<=(A!).size:=by rw[b.sz];omega
 refine KF (wpS_reverse (KF (c7d hl hn Y hm b' (λi j h3 h4=>?_) λk h3 h4 u _=>LW (h k _ b' a! h4 u))));rw[b0q hz,b0q hz,ac!,ac!];exact hd _ _ a! a!
def c8l{st:SortSt}{m n:Nat}{Q:DescSt->SortSt->Prop}(hl:dC_)(hn:fV_)(Y:1<=m)(hm:m<=n)(b:cp!)(hd:Dn r A! m)
  (h:∀k q h2,SB kd a0 h2->m<=k->k<=n->Dn r y_ k->q+1<=k->(∀i,k - (q+1)<=i->i<k->rk r y_ i=rk r y_ (k - 1))->Q (none,k,q) h2):wpS r_ A E s (descLoop m n) Q st:=by
 unfold descLoop;refine QT (I:=λx c h2=>∃q,c=(none,x,q)/\SB kd a0 h2/\Dn r y_ x/\q+1<=x/\∀i,x - (q+1)<=i->i<x->rk r y_ i=rk r y_ h7_) ?_ ?_ ⟨0,rfl,b,hd,v!,λi L h3=>by rw[show i=m - 1 by omega]⟩
 .rintro x c h2 L h3 ⟨q,rfl,b',d,hq,he⟩;have hz:x<=(y_).size:=by rw[b'.sz];omega
  refine KF (b8r hl b' (IT h3 hn) A8_ ?_);by_cases p:rk r y_ x<rk r y_ h7_
  .rw[IV p];have pz:∀xs:Array Keyed,(∀k,rk r xs k=rk r y_ k)->Dn r xs (x+1):=λxs hk i j h4 h5=>by
    rw[hk,hk];obtain h6|h6:=LK j x
    .exact d i j h4 h6
    .have:j=x:=by omega
     subst this;obtain h7|h7:=LK i j
     .have:=d i eF_ a! a!;omega
     .show"#<"
   by_cases uk:q>0
   .simp only[JT,uk];exact KF (wpS_reverse (LW ⟨0,rfl,b'.put ln!,pz _ (qA hz he),v!,A9!⟩))
   .simp only[JT,uk,JK];exact LW ⟨0,rfl,b',pz _ λ_=>rfl,v!,A9!⟩
  .rw[IF p];show"#(";refine KF (b8r hl b' A8_ (IT h3 hn) ?_);by_cases p2:rk r y_ h7_<rk r y_ x
   .rw[IV p2];exact LW (h x q h2 b' L (MX h3) d hq he)
   .rw[IF p2];have ex:rk r y_ x=rk r y_ h7_:=by omega
    refine LW ⟨q+1,rfl,b',λi j h4 h5=>?_,v!,λi h4 h5=>?_⟩
    .obtain h6|h6:=LK j x
     .exact d i j h4 h6
     .have:j=x:=by omega
      subst this;obtain h7|h7:=LK i j
      .rw[ex];exact d i eF_ a! a!
      .show"#<"
    .rw[show x+1 - 1=x by omega];obtain h6|h6:=LK i x
     .rw[ex];exact he i a! h6
     .rw[show i=x by omega]
 .rintro c h2 ⟨q,rfl,b',d,hq,he⟩;rw[show max m n=n by omega]at d hq he ⊢;exact h n q h2 b' hm y! d hq he
def b8q{st:SortSt}{m n:Nat}{Q:qz!}(hl:dC_)(hn:fV_)(hm:m+1<=n)(b:cp!)(hd:Dn r A! (m+1))
  (h:qz_):wpS r_ A E s (descPart m n) Q st:=by
 unfold descPart;refine KF (wpS_lift (LI ⟨rfl,KF (c8l hl hn a! hm b hd λk q h2 b' Y L d hq he=>?_)⟩));by_cases uk:q>0
 .simp only[JT,uk];refine KF (wpS_reverse (b8o hl hn a! L (b'.put ln!) (λi j h4 h5=>?_) h));have hz:k<=(y_).size:=by rw[b'.sz];omega
  rw[qA hz he,qA hz he];exact d i j h4 h5
 .simp only[uk,JK];exact b8o hl hn a! L b' d h
def c4f{st:SortSt}{n:Nat}{Q:qz!}(hl:dC_)(hn:fV_)(Y:1<=n)(b:cp!)(h:qz_):
  wpS r_ A E s (countRun' 0 n) Q st:=by
 rw[countRun0_eq];refine KF (c7d hl hn (IM 1) Y b (λi j h3 h4=>by rw[fW!];exact KW _) λm h3 h4 u hor=>?_);by_cases e:m=n
 .simp only[NE,e,JT];rw[<-e];exact LW Ba_
 .have am:rk r A! m<rk r A! h6_:=hor.resolve_left e;simp only[NE,e,JK];by_cases hg:m>1
  .simp only[hg,JT];refine KF (b8r hl b a! a! ?_);by_cases p:rk r A! 0<rk r A! h6_
   .rw[IV p];exact LW Ba_
   .rw[IF p];have ul:∀k,0<=k->k<m->rk r A! k=rk r A! h6_:=λk _ hk=>by
     have a1:=u 0 k a! hk;have a2:=u k h6_ a! a!;omega
    have hz:m<=(A!).size:=by rw[b.sz];omega
    refine KF (wpS_reverse (b8q hl hn a! (b.put ln!) Bb! h));rw[qA hz ul,qA hz ul];obtain h7|h7:=LK j m
    .rw[ul i a! a!,ul j a! h7];exact KW _
    .have:j=m:=by omega
     subst this;obtain h8|h8:=LK i j
     .rw[ul i a! h8];omega
     .show"#<"
  .simp only[hg,JK];have:m=1:=by omega
   subst this;refine b8q hl hn a! b Bb! h;obtain h8|h8:=LK i j
   .rw[show i=0 by omega,show j=1 by omega];exact Int.le_of_lt am
   .show"#<"
def c9o{lo hi k x n:Nat}(h:¬lo>=hi)(g2:hi<=k)(g3:hi - lo<=k - x)(hk:k<n):lo<=cU! / 2/\cU! / 2<hi/\cU! / 2<k/\cU! / 2<n/\cU! / 2 - lo<=k - (x+1)/\hi - (cU! / 2+1)<=k - (x+1):=by omega
def d2f{st:SortSt}{n k0:Nat}{Q:Bool->SortSt->Prop}(hl:dC_)(hn:fV_)(hk:k0<=n)(b:cp!)(hu:Up r A! k0)(h:∀h2,SB kd a0 h2->Up r y_ n->Q true h2):
  wpS r_ A E s (binarySort' 0 n k0) Q st:=by
 rw[binarySort'_eq];simp only[RJ];refine KF (wpS_mono (QT (I:=λk c h2=>c=fF!/\SB kd a0 h2/\Up r y_ (min k n)) (Q:=λc h2=>c=fF!/\SB kd a0 h2/\Up r y_ n) ?_ ?_ ⟨rfl,b,A7_⟩) ?_)
 .rintro k c h2 L h3 ⟨rfl,b',u⟩;rw[show min k n=k by omega]at u;have km:k<a0.size:=by omega
  refine KF (wpS_mono (QT (I:=λx c bh=>bh=h2/\∃lo hi,c=(none,lo,hi)/\lo<=hi/\hi<=k/\hi - lo<=k - x/\Bc!/\∀i,hi<=i->i<k->rk r y_ k<rk r y_ i)
   (Q:=λc bh=>bh=h2/\∃lo hi,c=(none,lo,hi)/\lo<=k/\Bc!/\∀i,lo<=i->i<k->rk r y_ k<rk r y_ i) ?_ ?_ ⟨rfl,0,k,rfl,v!,v!,v!,λi hi=>by omega,λi h4 h5=>by omega⟩) ?_)
  .rintro x c bh h4 h5 ⟨rfl,lo,hi,rfl,g1,g2,g3,g4,g5⟩;show"#.";by_cases zr:lo>=hi
   .rw[HY zr];have:lo=hi:=by omega
    subst this;exact LW Bc_
   .rw[HP zr];obtain⟨m1,m2,m3,m4,m5,m6⟩:=c9o zr g2 g3 km;refine KF (b8r hl b' km m4 ?_);by_cases p:rk r eG! k<rk r eG! qD!
    .rw[IV p];exact LW ⟨rfl,lo,cU! / 2,rfl,m1,MX m3,m5,g4,λi h6 h7=>Int.lt_of_lt_of_le p (u qD! i h6 h7)⟩
    .rw[IF p];exact LW ⟨rfl,cU! / 2+1,hi,rfl,m2,g2,m6,λi h6=>Int.le_trans (u i qD! (Nat.le_of_lt_succ h6) m3) (Int.not_lt.mp p),g5⟩
  .rintro c bh ⟨rfl,lo,hi,rfl,g1,g2,g3,g4,g5⟩;have:lo=hi:=by omega
   subst this;exact Bc_
  .rintro c bh ⟨rfl,lo,hi,rfl,g1,g4,g5⟩;rw[moveDown'_eq];refine KF (wpS_modify (LW ⟨rfl,b'.put (bubble_perm _ _ _),λi j h6 h7=>?_⟩));rw[show min V! n=k+1 by omega]at h7;have oj:k<(eG!).size:=by rw[b'.sz];exact km
   rw[b8t oj a!,b8t oj a!,show k - (k - lo)=lo by omega];have n1:∀m,m<lo->rk r eG! m<=rk r eG! k:=g4;have n2:∀m,lo<=m->m<k->rk r eG! k<rk r eG! m:=g5;by_cases ei:i=lo
   .rw[HY ei];by_cases ej:j=lo
    .rw[HY ej];exact KW _
    .rw[HP ej];by_cases fj:lo<j/\j<=k
     .rw[HY fj];exact Int.le_of_lt (n2 eF_ a! a!)
     .omega
   .rw[HP ei];by_cases fi:lo<i/\i<=k
    .rw[HY fi,HP a!,ac!];exact u (i - 1) eF_ a! a!
    .rw[HP fi];by_cases ej:j=lo
     .rw[HY ej];exact n1 i a!
     .rw[HP ej];by_cases fj:lo<j/\j<=k
      .rw[HY fj];exact u i eF_ a! a!
      .rw[HP fj];exact u i j h6 a!
 .rintro c h2 ⟨e,b',u⟩;rw[show min (max (max k0 1) n) n=n by omega]at u;exact⟨e,b',u⟩
 .by_cases h0:k0=0
  .show"#<"
  .exact hu i j h3 a!
 .rintro c h2 ⟨rfl,b',u⟩;exact LW (h h2 b' u)
def b8p{st:SortSt}{Q:Unit->SortSt->Prop}(hl:dC_)(b:cp!)(L:2<=a0.size)(oq:a0.size<64)
  (h:∀h2,(y_).Perm a0->failedOf h2=none->Up r y_ a0.size->Q () h2):wpS r_ A E s sortRuns' Q st:=by
 rw[sortRuns'_eq];refine KF fV!;have hmr:minRun' a0.size a0.size 0=a0.size:=by
  have:∀f,minRun' (f+1) a0.size 0=a0.size:=λf=>by rw[minRun'_succ,HY oq];rfl
  have q:=this (a0.size - 1);rwa[show a0.size - 1+1=a0.size by omega]at q
 dsimp only;simp only[b.sz,hmr];have fin:∀{h2:SortSt},SB kd a0 h2->Up r y_ a0.size->(arrOf lp!).Perm a0/\failedOf lp!=none/\pendingOf lp!=#[lo_]/\Up r (arrOf lp!) a0.size:=
  λ{h2} b' u=>⟨b'.pm,b'.fl,by show(Bd!).push _=_;rw[b'.pd];rfl,u⟩
 refine KF (wpS_mono (QT (I:=λx c h2=>(x=0/\c=(none,0)/\SB kd a0 h2)\/(1<=x/\c=Bd_/\(y_).Perm a0/\failedOf h2=none/\pendingOf h2=#[lo_]/\Up r y_ a0.size))
  (Q:=λc h2=>c=Bd_/\(y_).Perm a0/\failedOf h2=none/\pendingOf h2=#[lo_]/\Up r y_ a0.size) ?_ ?_ (.inl ⟨rfl,rfl,b⟩)) ?_)
 .rintro x c h2 _ J (⟨rfl,rfl,b'⟩|⟨_,rfl,d⟩)
  .show"#.";rw[HP a!];simp only[Nat.sub_zero,Nat.min_self,RJ];refine KF (c4f hl y! a! b' λm bh b2 g1 g2 u2=>?_);by_cases am:m<a0.size
   .simp only[am,JT];refine KF (wpS_lift (LI ⟨rfl,KF (d2f hl y! g2 b2 u2 λv7 b3 u3=>?_)⟩));simp only[LH,IW,JK];refine KF fV!;rw[show(pendingOf v7).back?=none by rw[b3.pd];rfl];exact KF (wpS_modify (LW (.inr ⟨IM 1,rfl,fin b3 u3⟩)))
   .simp only[am,JK];have:m=a0.size:=by omega
    subst this;refine KF fV!;rw[show(pendingOf bh).back?=none by rw[b2.pd];rfl];exact KF (wpS_modify (LW (.inr ⟨IM 1,rfl,fin b2 u2⟩)))
  .show"#.";rw[HY y!];exact LW ⟨rfl,d⟩
 .rintro c h2 (⟨J,_⟩|⟨_,e,d⟩)
  .omega
  .exact⟨e,d⟩
 .rintro c h2 ⟨rfl,d1,d2,d3,d4⟩;refine KF (wpS_mono (QT (I:=λ_ c bh=>bh=h2/\c=fF!) (Q:=λc bh=>bh=h2/\c=fF!) ?_ Be_ bi_) ?_)
  .rintro x c bh _ _ ⟨rfl,rfl⟩;refine KF fV!;rw[HY (by rw[d3];exact IM 1)];exact LW bi_
  .rintro c bh ⟨rfl,rfl⟩;exact LW (h _ d1 d2 d4)
end
abbrev Yi:Bool->SortKind:=sortPriv%PySem.Builtin.KeyKind.tuples
section
variable{prog:yp!}{w:xV!}{A:x6!}{E:Value->Shared->Prop}{s:yR!}
def Hy(h:Heap)(v:x5!)(a b:Int):Prop:=∃(p:x7!) (o:Obj) (n:Nat) (t u:Tok),v=.ref p/\h.get? p=some o/\o.cls=.type "tuple"/\o.data=.seq #[.int a t,.int b u] n
def CI(a b c d:Int):Bool:=if a=c then decide (b<d)else decide (a<c)
def a0p{f:Bool}{a b:Int}{Q:ev_}(h:Q (decide (a<b)) s):wpAny r_ A (oneLt' f gM! (.int b u)) Q E s:=by
 cases f with
 |true=>exact oneLt_int h
 |false=>
  rw[oneLt'_eq];rw[HP IN];refine HI (show wpAny r_ A (compareOp .Lt gM! (.int b u)) _ E s from PyProof.Rows.lt_int ?_);exact JN h
def yJ{f:Bool}{a b c d:Int}{Q:ev_}(J:Hy s.heap x a b)(hy:Hy s.heap y c d)(h:Q (CI a b c d) s):wpAny r_ A (keyLt' (Yi f) x y) Q E s:=by
 obtain⟨p,o,n,t,u,rfl,Y,_,L⟩:=J;obtain⟨p',o',n',t',u',rfl,kh,_,om⟩:=hy;refine HI (QU Y L (HI (QU kh om gD!)));show wpAny r_ A (forIn [((Value.int a t,Value.int c t'),0),((Value.int b u,Value.int d u'),1)] _ _) _ E s;rw[NC];refine HI (HI (QE a t c t' _ _ _ _ ?_));unfold CI at h;by_cases e:a=c
 .rw[HY e]at h;have e1:(a==c)=true:=by simpa using e
  rw[e1];simp only[LH,IW,JK];refine HK ?_;show"#.";rw[NC];refine HI (HI (QE b u d u' _ _ _ _ ?_));by_cases e2:b=d
  .have e3:(b==d)=true:=by simpa using e2
   rw[e3];simp only[LH,IW,JK];refine HK ?_;dsimp only;rw[PM];refine HK ac_;have e4:decide (b<d)=false:=by rw[e2];simp
   rw[e4]at h;simpa using h
  .have e3:(b==d)=false:=by simpa using e2
   rw[e3];simp only[PP,JT];exact HI Bf_
 .rw[HP e]at h;have e1:(a==c)=false:=by simpa using e
  rw[e1];simp only[PP,JT];exact HI Bf_
def b2p{α β:Type}{f:α->Sem β}{F:cX!}{Q:Array β->Shared->Prop}:∀(xs:P_),Bg!->(∀ys,Paired F xs ys->Q ys.toArray s)->wpAny r_ A (xs.toArray.mapM f) Q E s:=by
 intro xs hf hq;rw[Array.mapM_eq_mapM_toList];have kj:∀(xs:P_) (R:List β->Shared->Prop),Bg!->(∀ys,Paired F xs ys->R ys s)->wpAny r_ A (xs.mapM f) R E s:=by
  intro xs
  induction xs with
  |nil=>
   intro R _ h;rw[List.mapM_nil];exact HK (h [] .nil)
  |cons x xs ih=>
   intro R Y L;rw[List.mapM_cons];refine HI (Y x HQ _ λy hy=>HI (ih _ (λz hz=>Y z h8_) λys qo=>HK (L _ (.cons hy qo))))
 have:(List.toArray<$>xs.toArray.toList.mapM f:Sem (Array β))=(xs.toArray.toList.mapM f>>=λl=>pure l.toArray):=by rw[map_eq_pure_bind]
 rw[this];exact HI (kj _ _ (by simpa using hf) λys qo=>HK (hq ys (by simpa using qo)))
def a8f{vs:i_}{Q:SortKind->Shared->Prop}(h:∀v∈vs,∃a b,Hy s.heap v a b)(h0:vs≠[])(hq:Q (Yi true) s):wpAny r_ A (keyKind' cy_) Q E s:=by
 refine HI (b2p (F:=λ_ y=>∃a t,y=some lq_) vs Bi! λys qo=>?_)
 .obtain⟨a,b,p,o,n,t,u,rfl,Y,L,h3⟩:=h v hv;refine HI (wpAny_typeOf (T:="tuple") oN! ?_);rw[HP b_];exact HI (QU Y h3 (HK (hR _ ⟨a,t,rfl⟩)))
 .have ic:∀y∈ys,∃a t,y=some lq_:=by
   have kj:∀{l:i_} {m:List t8_},Paired (λ_ y=>∃a t,y=some lq_) l m->∀y∈m,∃a t,y=some lq_:=by
    intro l m hp
    induction hp with
    |nil=>intro y hy;cases hy
    |cons q _ ih=>
     intro y hy;obtain rfl|hy:=HN.mp hy
     .exact q
     .exact ih y hy
   exact kj qo
  have b8:ys≠[]:=λz=>by subst z;cases qo;exact h0 rfl
  rw[HY (by rw[List.all_toArray,LG];intro y hy;obtain⟨a,t,rfl⟩:=ic y hy;rfl)];refine HI h5_;have hints:∀v∈(Bi_).toList,∃a t,v=Value.int a t:=λv hv=>by
   simp only[List.filterMap_toArray,MO,id]at hv;obtain⟨y,hy,e⟩:=hv;obtain⟨a,t,e2⟩:=ic y hy;rw[e2]at e;exact⟨a,t,(JJ e).symm⟩
  have hz:(Bi_).toList≠[]:=λz=>by
   cases ys with
   |nil=>exact b8 rfl
   |cons y r=>
    obtain⟨a,t,rfl⟩:=ic y HQ;simp at z
  generalize hZ:ys.toArray.filterMap id=Z at hints hz ⊢;obtain⟨zs⟩:=Z;refine HI ?_;refine HI (b2p (F:=λ_ y=>y=Value.type "int") zs Bi! λts VZ=>?_)
  .obtain⟨a,t,rfl⟩:=hints v je!;exact wpAny_typeOf (typeIs_int s a t) (hR _ rfl)
  .have V':∀t∈ts,t=Value.type "int":=by
    have kj:∀{l m:i_},Paired (λ_ y=>y=Value.type "int") l m->∀y∈m,y=Value.type "int":=by
     intro l m hp
     induction hp with
     |nil=>intro y hy;cases hy
     |cons q _ ih=>
      intro y hy;obtain rfl|hy:=HN.mp hy
      .exact q
      .exact ih y hy
    exact kj VZ
   cases ts with
   |nil=>cases VZ;exact absurd rfl hz
   |cons t r=>
    have ht:=V' t HQ;subst ht;have e1:((Bk!).toArray)[0]?=some (Value.type "int"):=rfl;rw[e1];have e2:((Bk!).toArray.all λx=>x==Value.type "int")=true:=by
     rw[List.all_toArray,LG];intro y hy;rw[V' y hy];rfl
    show"#.";rw[HY e2];exact HK (HK hq)
end
def Lj(p q:dD!):Bool:=CI p.1 p.2 q.1 q.2
def qR{p q:dD!}:Lj p q=true↔(p.1<q.1\/(p.1=q.1/\p.2<q.2)):=by
 unfold Lj CI;split
 .rename_i h;rw[JA];omega
 .rename_i h;rw[JA];omega
def b4m(p:dD!):Lj p p=false:=by
 cases h:Lj p p with
 |false=>rfl
 |true=>have:=qR.mp h;omega
def jZ{p q r:dD!}(Y:Lj p q=true)(L:Lj q r=true):Lj p r=true:=by rw[qR]at Y L ⊢;omega
def a3y{p q:dD!}(h:p≠q)(Y:Lj p q=false):Lj q p=true:=by
 have kh:¬Lj p q=true:=by rw[Y];simp
 rw[qR]at kh ⊢;have:¬(p.1=q.1/\p.2=q.2):=λz=>h (Prod.ext z.1 z.2);omega
section
variable{α:Type}(kf:α->Int×Int)
def Rn(x:α):List α->List α
 |[]=>[x]
 |y::r=>if Lj (kf x) (kf y)then x::y::r else y::Rn x r
def Jo:List α->List α
 |[]=>[]
 |x::r=>Rn kf x (Jo r)
def Ot(l:P_):Prop:=l.Pairwise λx y=>Lj (kf x) (kf y)=true
variable {kf}
def tV(x:α):∀l:List α,(Rn kf x l).Perm (x::l)
 |[]=>OJ _
 |y::r=>by
  unfold Rn;split
  .exact OJ _
  .exact((tV x r).cons y).trans (List.Perm.swap x y r)
def bP:∀l:List α,(Jo kf l).Perm l
 |[]=>OJ _
 |x::r=>(tV x _).trans ((bP r).cons x)
def yO{x:α}:∀{l:P_},Ot kf l->(∀y∈l,kf x≠kf y)->Ot kf (Rn kf x l)
 |[],_,_=>QC _ _
 |y::r,h,hn=>by
  unfold Rn;unfold Ot at h;rw[KG]at h;split
  .rename_i am;refine KG.mpr ⟨lr!,KG.mpr h⟩;obtain rfl|hz:=HN.mp hz
   .exact am
   .exact jZ am (h.1 z hz)
  .rename_i am;refine KG.mpr ⟨lr!,yO h.2 λz hz=>hn z h8_⟩;obtain rfl|hz:=HN.mp ((tV x r).mem_iff.mp hz)
   .exact a3y (hn y HQ) zc_
   .exact h.1 z hz
def gV:∀{l:P_},(l.map kf).Nodup->Ot kf (Jo kf l)
 |[],_=>jw_
 |x::r,h=>by
  rw[HV,IJ]at h;refine yO (gV h.2) λy hy e=>h.1 ?_;rw[e];exact IB ((bP r).mem_iff.mp hy)
def lZ:∀{l m:P_},Ot kf l->Ot kf m->l.Perm m->l=m
 |[],m,_,_,h=>(List.Perm.nil_eq h)
 |x::l,m,Y,L,h=>by
  cases m with
  |nil=>exact absurd h.length_eq d!
  |cons y m=>
   have e:x=y:=by
    obtain e|J:=HN.mp (h.mem_iff.mp HQ)
    .exact e
    .obtain e|hy:=HN.mp (h.symm.mem_iff.mp HQ)
     .exact e.symm
     .have a1:=(KG.mp Y).1 y hy;have a2:=(KG.mp L).1 x J;have:=jZ a1 a2;rw[b4m]at this;cases this
   subst e;rw[lZ (KG.mp Y).2 (KG.mp L).2 ((List.perm_cons x).mp h)]
def b9s{β:Type}{f:lr_}{l m:dH_}(h:l.Perm m):∀{az:P_},m=az.map f->∃L':List α,L'.Perm az/\L'.map f=l:=by
 induction h with
 |nil=>intro az e;exact⟨[],by rw[List.map_eq_nil_iff.mp e.symm],rfl⟩
 |cons x _ ih=>
  intro az e;cases az with
  |nil=>cases e
  |cons y az=>
   injection e with e1 e2
   obtain⟨L',Y,L⟩:=ih e2;exact⟨y::L',Y.cons y,by rw[HV,L,e1]⟩
 |swap x y l=>
  intro az e
  match az,e with
  |a::b::az,e=>
   injection e with e1 e2
   injection e2 with e3 e4
   exact⟨b::a::az,List.Perm.swap a b az,by rw[HV,HV,<-e1,<-e3,<-e4]⟩
 |trans _ _ ih1 ih2=>
  intro az e;obtain⟨L2,Y,L⟩:=ih2 e;obtain⟨L1,h3,h4⟩:=ih1 L.symm;exact⟨L1,h3.trans Y,h4⟩
def Jp(ks:fY_)(k:dD!):Int:=((ks.filter λx=>Lj x k).length:Nat)
def sM{ks:fY_}{p q:dD!}(hp:p∈ks)(h:Lj p q=true):Jp ks p<Jp ks q:=by
 unfold Jp;have kj:∀l:List h9_,(Bn!).length<=(Bn_).length:=by
  intro l
  induction l with
  |nil=>simp
  |cons x l ih=>
   simp only[RM];by_cases J:Lj x p=true
   .simp only[J,jZ J h,JT,IE];omega
   .by_cases hy:Lj x q=true
    .simp only[J,hy,JT,IE];show"#(";omega
    .simp only[J,hy];show"#(";exact ih
 have aux2:∀l:List h9_,p∈l->(Bn!).length<(Bn_).length:=by
  intro l hl
  induction l with
  |nil=>cases hl
  |cons x l ih=>
   obtain e|hl:=HN.mp hl
   .subst e;have:=kj l;simp only[RM,b4m,h,JT,IE,IW,JK];omega
   .have:=ih hl;simp only[RM];by_cases J:Lj x p=true
    .simp only[J,jZ J h,JT,IE];omega
    .by_cases hy:Lj x q=true
     .simp only[J,hy,JT,IE];show"#(";omega
     .simp only[J,hy];show"#(";exact this
 have:=aux2 ks hp;omega
def b3j{ks:fY_}{p q:dD!}(hp:p∈ks)(hq:q∈ks):decide (Jp ks p<Jp ks q)=Lj p q:=by
 cases h:Lj p q with
 |true=>exact IV (sM hp h)
 |false=>
  refine IF λz=>?_;by_cases e:p=q
  .subst e;omega
  .have:=sM hq (a3y e h);omega
end
section
open Classical
variable{h:Heap}
def Hy.inj{a b c d:Int}(x:Hy h v a b)(y:Hy h v c d):ab!=(c,d):=by
 obtain⟨p,o,n,t,u,rfl,Y,_,L⟩:=x;obtain⟨p',o',n',t',u',e,kh,_,om⟩:=y;cases e;rw[Y]at kh;cases kh;rw[L]at om;injection om with h3 _
 have:=congrArg Array.toList h3;simp at this;rw[this.1.1,this.2.1]
def Mb(h:Heap)(v:x5!):Int×Int:=if x:∃a b,Hy h v a b then(x.choose,x.choose_spec.choose)else(0,0)
def rC{a b:Int}(x:Hy h v a b):Mb h v=ab!:=by have z:∃a b,Hy h v a b:=⟨a,b,x⟩;unfold Mb;rw[dif_pos z];exact z.choose_spec.choose_spec.inj x
def uK{kf:D->Int×Int}{az:ls!}{ou a0:co_}(ha:h6!=az.map c_)(hk:∀q∈az,Hy h q.1.1 (kf q.2).1 (kf q.2).2)(nd:(qI!).Nodup)(hp:ou.Perm a0)
  (hu:Up Bo_ ou a0.size):∃L':List (Keyed×D),L'.Perm az/\ou.toList=L'.map c_/\L'.map A_=Jo kf qH_:=by
 have bx:ou.toList.Perm h6!:=Array.perm_iff_toList_perm.mp hp;obtain⟨L',Y,L⟩:=b9s bx ha;refine⟨L',Y,L.symm,lZ ?_ ls_ ((Y.map _).trans (bP _).symm)⟩;have f9:((L'.map A_).map kf).Nodup:=(((Y.map _).map _).nodup_iff).mpr nd;unfold Ot;rw[PL];intro i j hi hj WB;have df:i<fZ!:=by simpa using hi
 have zt:j<fZ!:=by simpa using hj
 have hsz:ou.size=fZ!:=by rw[<-JU,<-L,IK]
 have bq:a0.size=fZ!:=by rw[<-JU,ha,IK,Y.length_eq]
 have WC:∀k (cx:k<fZ!),rk Bo_ ou k=Jp qI! (kf L'[k].2):=λk cx=>by
  unfold rk;have e:ou[k]?=some L'[k].1:=by
   rw[<-ND,<-L,JC,II cx];rfl
  rw[e];show Jp _ (Mb h L'[k].1.1)=_;rw[rC (hk L'[k] Bq!)]
 have oi:=hu i j (MX WB) a!;rw[WC i df,WC j zt]at oi;simp only[List.getElem_map];have mem:∀k (cx:k<fZ!),kf L'[k].2∈(qH_).map kf:=λk cx=>IB (IB Bq!);have ne:kf L'[i].2≠kf L'[j].2:=λe=>by
  have q:=(List.getElem_inj (i:=i) (j:=j) (h₀:=by simpa using df) (h₁:=by simpa using zt) f9).mp cV_;omega
 cases am:Lj (kf L'[i].2) (kf L'[j].2)with
 |true=>rfl
 |false=>
  have:=sM (mem j zt) (a3y ne am);omega
end
def b2m(a v:x5!):argsOk "list.sort" Bq_:=by unfold argsOk;kernel_rfl
def a5t(a v:x5!):argsOk "sorted" Bq_:=by unfold argsOk;kernel_rfl
section
variable{X:Cx}{h1:List (Addr×Obj)}{Z:St}{G H:Hp}{s:yR!}{A:x6!}{E:Value->Shared->Prop}
def c4i{k:Nat}{sp:Sp}{Q:VK}(F:Fq X.prog X.w X.K X.mg X.base Qf k f fd ps sp)(hr:gF_)(hb:j3!)(e0:Rs X.prog X.w X.K X.mg X.base A X.stack s H)
  (I:d_)(r:eO!)(h:sp vs H Q E0):wpAny e_ A (call aj_ us) aM! E s:=by
 have hl:(us++[]).length=V_:=by rw[IR,<-r.length];exact F.len _ _ _ _ h
 have dr:=hb s us I.kIn hl;rw[IR]at dr;refine wpAny_call (RB (F.run A X.stack s H db_ us vs Q E0 hr e0 dr r h) λr s' hq=>?_);cases r with
 |error e=>exact hq.elim
 |ok fl=>
  cases fl with
  |ret u=>exact I.after hq
  |next=>exact False.elim hq
  |brk=>exact False.elim hq
  |cont=>exact False.elim hq
def My:D->Option h9_
 |.tup [.int a,.int b]=>some ab!
 |_=>none
def a7e{a b:Int}(I:d_)(sub:K_)(r:bX_)(e:My d=some ab!):Hy s.heap u a b:=by
 unfold My at e;show"!6"
 .cases e;obtain⟨v,r,ru⟩:=r;show"!X";cases ru;show"!4";cases bG r1;cases bG r2;show"#4";obtain⟨x,y,rfl,⟨t,rfl⟩,⟨u,rfl⟩⟩:=b2r rv;exact⟨p,o,n,t,u,rfl,Y,L,h3⟩
 .cases e
def Nq(g:ai!):List D->Option (List h9_)
 |[]=>some []
 |d::r=>(g [d]).bind λx=>(My x).bind λk=>(Nq g r).map (k::·)
def d2g{oc':Obj}{h':Heap}{t':Nat}(I:Inv X (h1++[eG_,(c,oc)]) Z H s)(hc:Ji X h1 H c)(jb:a≠c)(kp:∀b o,b≠c->s.heap.get? b=some o->h'.get? b=some o)(ho:h'.get? c=some oc')(hd:∀v,oc'.data≠.cell v):
  Inv X (h1++[eG_,(c,oc')]) Z H {s with heap:=h',toks:=t'}:=by
 have pa:=I.pin eG_ (IA _ d!);have I1:Inv X qI_ Z H s:=I.pins_of λp hp=>I.pin p (IA _ (by
  obtain z|z:=HX.mp hp
  .exact IS _ z
  .exact IA _ (by simp at z;simp[z])))
 have ky:∀b∈[c],Ji X qI_ H b:=λb hb=>by
  have e:b=c:=by simpa using hb
  subst e;obtain⟨f0,f1,f2,f3,f4,f5⟩:=hc;refine⟨f0,f1,f2,f3,f4,eM!⟩;obtain z|z:=HX.mp hp
  .exact f5 p (IS _ z)
  .obtain z|z:=HX.mp z
   .exact f5 p (IA _ z)
   .have:p=eG_:=by simpa using z
    rw[this];exact jb
 have I2:Inv X qI_ Z H {s with heap:=h',toks:=t'}:=kG I1 ky λb o hb e=>kp b o gr! e;refine I2.pins_of λp hp=>?_;obtain z|z:=HX.mp hp
 .exact I2.pin p (IA _ (IS _ z))
 .obtain z|z:=HN.mp z
  .subst z;exact I2.pin _ fZ_
  .have:p=(c,oc'):=by simpa using z
   subst this;exact⟨ho,hc.1,hc.2.1,hc.2.2.1,hd⟩
def a1c{k:Nat}{ps:q!}{g:ai!}{body:Value->PUnit->Sem z4_}{Q:z2!}(F:Br_)(hr:qJ!)(hb:j3!)(lp:V_=1)(jb:a≠c)
  (p6:∀x (R:ForInStep PUnit->Shared->Prop) s,wpAny e_ X.A.in1.in1 (call aj_ [x]) (λk s'=>wpAny e_ X.A.in1.in1 (Builtin.List.listUpdate (.ref c) (·.push k)) (λ_ s2=>R (.yield ⟨⟩) s2) E s') E s->wpAny e_ X.A.in1.in1 (body x ⟨⟩) R E s):
  ∀{ds:c!} {us:i_} {kd:c!} {ku:i_} {n:Nat} {ks:fY_} {s:yR!} {G H:Hp},Inv X (h1++[eG_,Bs!]) Z H s->Bk G H->Paired cV! ds us->Paired cV! kd ku->Nq g ds=some ks->
   (∀H':Hp,H' c=none->Ji X h1 H' c)->qK!+h!<=1000->
   (∀s' H' G' qq um n',Inv X (h1++[eG_,(c,seqObj "list" (ku++qq).toArray n')]) Z H' s'->Co G H G' H'->Paired (Cw X.K G') (kd++um) (ku++qq)->Paired qL_ um ks->Q ⟨⟩ s')->
   wpAny e_ X.A.in1.in1 (forIn us ⟨⟩ body) Q E s
 |_,_,kd,ku,n,ks,s,G,H,I,sub,.nil,pk,e,st,hl,hq=>by
  rw[PM];cases e;refine HK (hq s H G [] [] n ?_ aT! ?_ .nil)
  .rw[IR];exact I
  .rw[IR,IR];exact pk
 |d::ds,u::us,kd,ku,n,ks,s,G,H,I,sub,.cons r t,pk,e,st,hl,hq=>by
  show"!r";obtain⟨v,rv,ru⟩:=r;rw[NC];simp only[IE]at hl;refine HI (p6 u _ s (dM (c4i (vs:=[v]) (Q:=λv' H'=>∃G',Co G H G' H'/\Ax X.K G' x v') F hr hb I.env0.in1.in1 I vj! ⟨lp.symm,G,[d],x,sub,An.cons rv An.nil,e1,λv' G' H' x' r'=>⟨G',x',r'⟩⟩) λkv s1 ⟨v1,H1,I1,rk1,G1,x1,r1⟩=>?_));have pc:=I1.pin Bs! fZ_;refine OV pc.1 rfl ?_ lu! (by simp only[Array.size_push,HS];rw[JV];omega);have e4:=OF pc.1 (·.push kv);have I2:=d2g (oc':=seqObj "list" (ku++[kv]).toArray (if(ku.toArray.push kv).size==ku.toArray.size then n else n+1)) (t':=s1.toks) I1 (st H1 pc.2.1) jb (λb o hb e=>(uV!).trans e) (by rw[e4,List.push_toArray]) v2!;refine a1c F hr hb lp jb p6 I2 x1.sub (Paired.mapP t λ_ _ z=>z.mono x1.g) (jN (Paired.mapP pk λ_ _ z=>z.mono x1.g) (.cons ⟨v1,r1,rk1⟩ .nil)) e3 st z5_ λs' H' G' qq um n' I' x' p' k'=>?_;refine hq s' H' G' (kv::qq) (x::um) n' ?_ (x1.trans x') ?_ (.cons e2 k')
  .rw[KB]at I';exact I'
  .rw[KB,KB]at p';exact p'
end
def Jb(g:ai!)(d:D):Int×Int:=((g [d]).bind My).getD (0,0)
def yI{g:ai!}:∀{ds:c!} {ks:fY_},Nq g ds=some ks->ks=ds.map eH!
 |[],_,e=>by cases e;rfl
 |d::r,ks,e=>by
  show"!r";rw[HV,<-yI e3];congr 1;unfold Jb;rw[e1];show q=(My x).getD _;rw[e2];rfl
section
variable{X:Cx}{h1:List (Addr×Obj)}{Z:St}{G H:Hp}{s:yR!}{A:x6!}{E:Value->Shared->Prop}
def xS{P:Value->D->Prop}{R:D->Value->Prop}:∀{ku us:i_} {ds:c!},Paired P ku ds->Paired R ds us->∀q∈(ib_).zip ds,P q.1.1 q.2/\R q.2 q.1.2
 |_,_,_,.nil,.nil,q,h=>by simp at h
 |_,_,_,.cons p t,.cons r u,q,h=>by
  rw[PF,PF]at h;obtain rfl|h:=HN.mp h
  .exact⟨p,r⟩
  .exact xS t u q h
def jM{α β γ:Type}{R:cX!}{f:γ->α}{h:γ->β}:∀{l:List γ},(∀q∈l,R (f q) (h q))->Paired R eH_ (l.map h)
 |[],_=>.nil
 |q::r,hh=>.cons (hh q (HQ ..)) (jM λz hz=>hh z h8_)
def gN{α β:Type}{R:cX!}:∀{l:P_} {m:dH_},Paired R l m->av!=m.length
 |_,_,.nil=>rfl
 |_,_,.cons _ t=>by rw[IE,IE,gN t]
def uL{G:Hp}{kf:D->Int×Int}(hp:∀d u a b,Cw X.K G d u->My d=some ab!->Hy h u a b):∀{kd:c!} {ku:i_} {ds:c!},Paired cV! kd ku->Paired qL_ kd (ds.map kf)->Paired (λv d=>Hy h v (kf d).1 (kf d).2) ku ds
 |_,_,[],.nil,_=>.nil
 |_,_,_::_,.nil,h=>by cases h
 |_,_,[],.cons _ _,h=>by cases h
 |_,_,_::_,.cons r t,.cons k u=>.cons (hp _ _ _ _ r k) (uL hp t u)
def d1x{st:SortSt}{us':i_}{ku:i_}{e e1:Nat}{P:lv!}(zu:(A!).map A_=o6!)(hz:us'.length<64)(VT:qK!<64)(hf:failedOf st=none)(jb:a≠c)
  (gh:qM_)(ky:Bu!)(I:Bv!)
  (hP:∀s' n',Inv X h1 Z H s'->s'.heap.get? a=some ic!->P ic_ s'):wpAny e_ A Bw! P E s:=by
 have pa:=I.pin lw! fZ_;have pc:=I.pin Bu_ fZ_;unfold ksk_tail;show"#.";rw[zu];refine HI (OV pc.1 rfl ?_ lu! cj_);refine HI (NR ?_);have ea:(s.heap.update c Bx!).get? a=some qN!:=(JI _ _ (HR jb)).trans pa.1;refine HI (seqEpoch_at ea rfl ?_);show"#(";refine HI (OV ea rfl ?_ cj_ lu!);rw[hf];simp only[RF,IW,JK];have I1:Inv X h1 Z H s:=I.unpinned;refine HK (hP _ _ (kG (wr:=[a,c]) (t':=s.toks) I1 ir! λb o hb q=>?_) (OF ea λ_=>o6!))
 .obtain rfl|hb:=HN.mp hb
  .exact gh H pa.2.1
  .rw[lx!];exact ky H pc.2.1
 .have Y:b≠a:=λz=>hb (by rw[z];exact HQ ..);have L:b≠c:=λz=>hb (by rw[z];exact HL _ (HQ ..));exact(JI _ _ (HR Y)).trans ((JI _ _ (HR L)).trans q)
def d4v{g:ai!}{ds:c!}{us ku:i_}{e e1:Nat}{P:lv!}(oq:h!<64)(nd:(ds.map eH!).Nodup)(jb:a≠c)
  (gh:qM_)(ky:Bu!)(I:Bv!)(sub:K_)
  (pu:qO!)(pk:Paired cV! kd ku)(kk:Paired qL_ kd (ds.map eH!))
  (hP:∀s' us' n',Inv X h1 Z H s'->Paired cV! qO_ us'->s'.heap.get? a=some ic!->P ic_ s'):wpAny e_ A (ksk_end a false us.toArray e1 (.ref c) ku.toArray) P E s:=by
 have z:=uL (X:=X) (h:=s.heap) (λd u a b r q=>a7e I sub r q) pk kk;have l1:aw!=h!:=(gN pu).symm;have l2:qK!=h!:=gN z;have mem:=xS z pu;have jw:(ly!).toList=(id!).map c_:=by
  rw[ksk_zip,Bx_]
 have hd:(id!).map A_=ds:=List.map_snd_zip qP!;have fin:∀{L':ls!} {st:SortSt},L'.Perm id!->(A!).toList=L'.map c_->L'.map A_=Jo eH! ds->failedOf st=none->wpAny e_ A Bw! P E s:=λ{L' st} Y L h3 h4=>by
  refine d1x (us':=L'.map (·.1.2)) ?_ (by rw[IK,Y.length_eq,KH,KH];omega) a! h4 jb gh ky I λs' n' I' e'=>hP s' _ n' I' ?_ e'
  .apply By!;rw[Array.toList_map,L,JL];rfl
  .rw[<-h3];exact jM λq hq=>(mem q (Y.mem_iff.mp hq)).2
 unfold ksk_end;show"#.";show"#(";by_cases L:kk!<2
 .rw[HY L,HY L];refine HI ac_;rw[StateT.run_pure];refine HI ac_;show"#.";refine fin (L':=(ib_).zip ds) (OJ _) jw ?_ rfl;rw[hd];rw[HS,l1]at L
  match ds,L with
  |[],_=>rfl
  |[x],_=>rfl
  |_::_::r,L=>simp at L;omega
 .rw[HP L,HP L];rw[HS]at L;refine HI (a8f (vs:=ku) By_ (λz=>by rw[z]at l2;simp at l2;omega) ?_)
  .show"!j"
  .have hsz:(ly!).size=h!:=by rw[<-JU,jw,IK,KH,KH];omega
   have hk:∀q∈(ib_).zip ds,Hy s.heap q.1.1 (qP_).1 (qP_).2:=λq hq=>(mem q hq).1;have f9:(id_).Nodup:=by rw[hd];exact nd
   refine HI (KL (b8p (kd:=Yi true) (a0:=ku.toArray.zip cD!) (r:=λp=>Jp id_ BA_) (Q:=λ_ h2=>(y_).Perm ly!/\failedOf h2=none/\Up (λp=>Jp id_ BA_) y_ (ly!).size)
    (BC!) BB_ BD! BC_ λh2 a1 a2 a3=>BE!) ?_ λ_ _ e=>e)
   .rw[jw]at J hy;obtain⟨p,hp,rfl⟩:=IH.mp J;obtain⟨q,a9,rfl⟩:=IH.mp hy;refine yJ lA_ lB! ?_;have mm:∀p∈(ib_).zip ds,Jb g p.2∈((id!).map A_).map eH!:=λp hp=>IB (IB hp);have hh:decide BD_=Lj (Jb g p.2) qP_:=by
     show"#B"
    have uo:Q (decide BD_) s:=hq;rw[hh]at uo;exact uo
   .show"!E";exact fin b1 b2 BE_ a2
def d1w{k:Nat}{ps:q!}{g:ai!}(F:Br_)(hr:qJ!)(hb:j3!)(lp:V_=1)
  {us:i_}{ds:c!}{n:Nat}{ks:fY_}{P:lv!}(I:d_)(sub:K_)(pu:qO!)(ha:BF!)(jc:ik_)
  (gh:qM_)(ek:Nq g ds=some ks)(nd:hF_)(oq:h!<64)
  (hP:∀s' H' G' us' n',Inv X h1 Z H' s'->Co G H G' H'->Paired (Cw X.K G') qO_ us'->H' a=none->s'.heap.get? a=some ic!->P ic_ s'):
  wpAny e_ X.A.in1.in1 (ksk_tree a aj_ false) P E s:=by
 have l1:aw!=h!:=(gN pu).symm;have ekm:=yI ek;obtain⟨e1,uq⟩:∃e1,(s.heap.update a (Obj.mapSeq λ_=>(#[]:Array Value))).get? a=some (seqObj "list" #[] e1):=BG!;unfold ksk_tree;refine HI BI_;refine HI BG_;refine HI BH!;refine HI BI!;refine HI qR!;refine JO ?_;have hsz:(cp_).objs.size=o_+1:=by rw[size_push',Heap.size_update]
 show wpAny _ _ (ksk_rest a aj_ false us.toArray e1 (.ref (cp_).objs.size)) P E {s with heap:=(cp_).push cq!};have j5:(qR_).get? (cp_).objs.size=some cq!:=IP _ rfl;rw[hsz]at j5 ⊢;have jb:a≠o_+1:=JG (PX (IQ ha));have ky:∀H':Hp,H' ag_=none->Ji X h1 H' ag_:=λH' q=>I.fpOk (QB _) q;have mh:(qR_).get? a=some qN!:=HM _ (HM _ uq);have I1:Inv X h1 Z H {s with heap:=(cp_).push cq!}:=
  kG (wr:=[a]) (t':=s.toks) I (λb hb=>by rw[lx!];exact gh H jc) λb o hb q=>HM _ BJ_
 have fa:=gh H jc;have fc:=ky H tW!;have I2:Inv X (h1++[lw!,(o_+1,seqObj "list" (v1!).toArray 0)]) Z H {s with heap:=(cp_).push cq!}:=I1.pins_of λp hp=>by
  obtain z|z:=HX.mp hp
  .exact I1.pin p (IA _ z)
  .obtain rfl|z:=HN.mp z
   .exact⟨mh,jc,fa.2.1,fa.2.2.1,jN_⟩
   .rw[aL_];exact⟨j5,fc.1,fc.2.1,fc.2.2.1,jN_⟩
 generalize o_+1=c at *;unfold ksk_rest;refine HI h5_
 first
  |rw[List.forIn_toArray]
  |(rw[<-Array.forIn_toList];simp only[List.toList_toArray])
  |rw[<-Array.forIn_toList]
 refine HI (KL (a1c (E:=v4!) (Q:=λ_ s'=>wpAny e_ X.A.in1.in1 _ P E s') F hr hb lp jb (λx R s' J=>?_) I2 sub pu .nil ek ky (by rw[LP];omega) λs' H' G' qq um n' I' x' p' k'=>?_) Be_ λ_ _ z=>z.elim)
 .refine HI (PK (KL J (λkv s2 hk=>?_) λ_ _ z=>z.elim));show"#.";exact HI (KL hk (λ_ s3 z=>HK z) λ_ _ z=>z)
 .rw[KP]at I';rw[KP,KP]at p';have pc:=I'.pin (c,seqObj "list" qq.toArray n') fZ_;have pa:=I'.pin lw! fZ_;refine HI (QU pc.1 rfl ?_);rw[ekm]at k' nd;exact d4v oq nd jb gh ky I' x'.sub (Paired.mapP pu λ_ _ z=>z.mono x'.g) p' k' λs3 us' n3 I3 p3 e3=>hP s3 H' G' us' n3 I3 x' p3 pa.2.1 e3
def AC(g:ai!)(ds:c!):Option aR_:=(Nq g ds).bind λks=>if hF_/\h!<64 then some qO_ else none
def Vi(g:ai!)(fa:e!):Ae->Option D:=λρ=>(fp_).bind λd=>match d with
 |.lst ds=>(AC g ds).map D.lst
 |_=>none
def mG{K:yS!}:∀{ds:c!} {vs:n_} {us:i_},An K G ds vs->Bc vs us->Paired f2! ds us
 |[],vs,us,r,p=>by cases cS r;cases p;exact .nil
 |d::ds,vs,us,r,p=>by
  obtain⟨v,t,rfl,r1,r2⟩:=bR r;cases p with
  |cons a b=>exact .cons ⟨v,r1,a⟩ (mG r2 b)
def mI{K:yS!}:∀{ds:c!} {us:i_},Paired f2! ds us->∃vs,An K G ds vs/\Bc vs us
 |_,_,.nil=>⟨[],An.nil,.nil⟩
 |_,_,.cons ⟨v,r,p⟩ t=>let⟨vs,r2,p2⟩:=mI t;⟨v::vs,An.cons r r2,.cons p p2⟩
def b2z{us':i_}{n':Nat}{s0:yR!}{H0:Hp}{ds:c!}{Q:VK}(I0:Inv X h1 Z H0 s0)(I:d_)(sub:K_)(hs:AO!<=a)(pu:Paired cV! ds us')(hz:h!<=sizeLine)(ho:s.heap.get? a=some ic!)(hn:ik_)
  (hQ:∀v G' H',Co G H G' H'->Ax X.K G' cd! v->Q v H'):EP X h1 Z Q ag! s:=by
 obtain⟨vs,r,p⟩:=mI pu;have f:=I0.fpOk hs hn;refine⟨d1!,upd H a dm_,I.track ho p (by rw[<-aL r];exact hz) hn ?_ f.2.1 f.2.2.2.2.1 f.2.2.2.2.2,rfl,hQ _ _ _ (Co.laid sub hn) ?_⟩
 .exact JB I0.sz hs
 .exact Ax.lst (Fz.of cC) (r.mono (λb u e=>by rw[bD (λz=>by rw[z]at e;rw[sub _ _ e]at hn;cases hn)];exact e))
def a1x:bootBuiltins "sorted"=some lF_:=by decide+kernel
def a2i{us:i_}{Q:q_}(hl:BK_)(hz:aw!<64)
  (h:wpAny e_ X.A.in1.in1 (ksk_tree ag_ aj_ false) (λfin s'=>∃v,fin=.done (.ret v)/\Q (.ref ag_) s') E {s with heap:=(lG_).push lH!}):
  wpAny e_ X.A (call lF_ [.ref l] [(Str.ofString "key",.ref f)]) Q E s:=by
 refine call_function_entry_kw kind_sorted plain_sorted entry_sorted (a5t _ _) ?_;unfold Builtin.«sorted»;refine HI (m:=BL_) ac_;refine HI (collect_list hl ?_ BM!);refine HI (QP ?_ BM!);have hsz:(lG_).objs.size=o_+1:=by
  rw[Heap.size_update,size_push']
 have lh:((lG_).push lH!).get? ag_=some lH!:=by
  rw[<-hsz];exact IP _ rfl
 show wpAny _ _ _ _ _ {s with heap:=(lG_).push lH!};rw[hsz];refine HI (JO (wpAny_call_entry_kw slot_list_sort BM_ entry_list_sort ?body (b2m _ _)))
 case body=>
  rw[ksk_t1];refine KL h (λfin s' hq=>?_) λ_ _ z=>z;obtain⟨v,rfl,hq⟩:=hq;exact⟨v,rfl,HK ⟨_,rfl,hq⟩⟩
variable{own:List Nat}{fa:Ae->Option D}{e:Expr}{pos p p2 kp:Pos}{x:Str}
def c2u{k:Nat}{ps:q!}{g:ai!}(F:xJ_)(hr:qJ!)(hgx:Y_)(zw:Gl X "sorted")(zx:X.mg "sorted"=none)(ha:DE X own e fa)(lp:V_=1:=by rfl)(bg:F_:=by decide)
  (he:hr!:=by rfl):
  DE X own (.Call (.Name "sorted" p) [e] [⟨some "key",cI!,kp⟩] pos) (Vi g fa):=⟨by
 obtain⟨ae,fd,Y,L,h3,h4⟩:=F;intro h1 s Z H Q I ⟨G,ρ,d,er,e1,kq⟩;obtain⟨d0,e2,e1⟩:=HJ.mp e1;cases d0 with
 |lst ds=>
  obtain⟨qe,e3,rfl⟩:=HU.mp e1;obtain⟨ks,e4,e5⟩:=HJ.mp e3;have qi:hF_/\h!<64:=by
   by_cases z:hF_/\h!<64
   .exact z
   .rw[HP z]at e5;cases e5
  rw[HY qi]at e5;cases e5;have da:=(aE ha aJ he).ok;refine LJ (kU I zw zx a1x ?_ b_ b_);refine callWith_kw (dM (da pos h1 s Z H _ I ⟨G,ρ,[.lst ds],er,by unfold Ac Ag;rw[e2];rfl,λvs G1 H1 x1 r1=>(⟨G1,x1,r1⟩:∃G1,Co G H G1 H1/\An X.K G1 [.lst ds] vs)⟩) λus s1 ⟨vs,H1,I1,r,G1,x1,r1⟩=>?_) lJ! lJ! rfl rfl;refine kws_cons (kS I1 hgx h3 (kws_nil ?_) bg);obtain⟨v,t,rfl,rv,rr⟩:=bR r1;cases cS rr;obtain⟨l,xs,rfl,sq,rx⟩:=bT rv;obtain⟨its,hv,pl,hz⟩:=I1.list BN_;cases r with
  |cons ra rb=>
   cases rb;cases ra;show wpAny e_ X.A (call lF_ [.ref l] [(Str.ofString "key",.ref ae)]) _ _ s1;have lz:gT_=h!:=by rw[<-hv.length,<-aL rx]
   obtain⟨nn,sl,ho⟩:=pC pl;refine a2i (us:=its) ⟨_,ho,rfl,nn,rfl⟩ (by rw[lz];exact qi.2) ?_;have keep:∀b o,s1.heap.get? b=some o->(BP_).get? b=some o:=λb o q=>by
    have am:b<D!:=IQ q;exact HM _ ((Heap.get?_update_ne _ _ _ _ (JG am)).trans ((Heap.get?_push_ne _ _ _ (JG am)).trans q))
   have hsz:(BO!).objs.size=D!+1:=by
    rw[Heap.size_update,size_push']
   have lh:(BP_).get? (D!+1)=some BO_:=by
    rw[<-hsz];exact IP _ rfl
   have I2:=I1.kept (t':=s1.toks) keep;have hs1:D!<=D!+1:=QB _;refine d1w Y hr L lp I2 x1.sub (mG rx hv) lh (I1.hok.fresh hs1) (λH' q=>I1.fpOk hs1 q) e4 qi.1 qi.2 λs3 H3 G3 us3 n3 I3 x3 p3 hn3 zy=>ph_;exact b2z I1 I3 x3.sub hs1 p3 BQ! zy hn3 λv G4 H4 x4 r4=>kq v G4 H4 (x1.trans (x3.trans x4)) r4
 |_=>cases e1⟩
end
def b2y{es:ae!}{ep:Nat}(hd:AB_):W.KdlSrc P w "dict" d d es.length qr! (λh=>Pi h d es ep) where
 type:=λ_ hm=>hm.typeIs
 there:=λ_ hm=>let⟨_,ho,_⟩:=hm;⟨IQ ho,IQ ho⟩
 keep:=λ_ _ hm hk=>hm.at λo e=>hk d G! o e
 notList:=by decide
 notTuple:=by decide
 hint:=λ_ _ _ _ hm hq=>W.kdl_hint_dict hm.typeIs hq
 iter:=λ_ _ hh hm=>⟨_,_,(λ_ _ hq=>c1v hd hm hq),b5o hh _ d (let⟨_,ho,_⟩:=hm;JG in!) es ep,⟨eW_,hm.at λo e=>HM _ e⟩⟩
section
variable{X:Cx}{h1:List (Addr×Obj)}{Z:St}{G H:Hp}{s:yR!}{A:x6!}{E:Value->Shared->Prop}
def c9s{K:yS!}{kvs:i!}{es:ae!}{acc:af!}(ok:fI!)(hi:BR!):Paired f2! fH_ lJ_:=by
 have ea:lJ_=es.map kL!:=by
  apply RG;intro i;rw[JC];by_cases h:i<aj!
  .have Y:i<acc.size:=by rw[hi.1];exact h
   show"!k"
  .rw[BR_,JW a!];rfl
 rw[ea];have:∀{kvs:i!} {es:ae!},Paired qV! kvs es->Paired f2! fH_ eJ_:=λ{kvs es} h=>by
  induction h with
  |nil=>exact .nil
  |cons a _ ih=>exact .cons a ih
 exact this qV_
def Nv(d:D):Int×Int:=(My d).getD (0,0)
def Xd(ds:c!):Option aR_:=if lK_=true/\(lL_).Nodup/\h!<64 then some lM_ else none
def d1v{us:i_}{ds:c!}{n:Nat}{P:lv!}(I:d_)(sub:K_)(pu:qO!)(ha:BF!)(jc:ik_)
  (gh:Ji X h1 H a)(ek:lK_=true)(nd:(lL_).Nodup)(oq:h!<64)
  (hP:∀s' us' n',Inv X h1 Z H s'->Paired cV! lM_ us'->s'.heap.get? a=some ic!->P ic_ s'):
  wpAny e_ A (Builtin.«list.sort» nW_) P E s:=by
 have l1:aw!=h!:=(gN pu).symm;obtain⟨e1,uq⟩:∃e1,(s.heap.update a (Obj.mapSeq λ_=>(#[]:Array Value))).get? a=some (seqObj "list" #[] e1):=BG!;rw[list_sort_plain];refine HI BI_;refine HI BG_;refine HI BH!;refine HI BI!;refine HI qR!;refine JO ?_;show wpAny _ _ _ P E {s with heap:=(cp_).push cq!};have I1:Inv X h1 Z H {s with heap:=(cp_).push cq!}:=
  kG (wr:=[a]) (t':=s.toks) I qW_ λb o hb q=>HM _ BJ_
 have mh:(qR_).get? a=some qN!:=HM _ (HM _ uq);generalize (cp_).push cq!=h3 at I1 mh ⊢;have pk:∀d∈ds,My d=some (Nv d):=λd hd=>by
  have:=LG.mp ek d hd;unfold Nv;cases q:My d with
  |none=>rw[q]at this;cases this
  |some z=>rfl
 have z:Paired qX_ us ds:=by
  have gen:∀{ds:c!} {us:i_},Paired cV! ds us->(∀d∈ds,My d=some (Nv d))->Paired qX_ us ds:=λ{ds us} h=>by
   induction h with
   |nil=>exact λ_=>.nil
   |cons r _ ih=>exact λhk=>.cons (a7e I1 sub r (hk _ (HQ ..))) (ih λd hd=>hk d (HL _ hd))
  exact gen pu pk
 have mem:=xS z pu;have jw:(f3_).toList=(eK!).map c_:=by
  rw[ksk_zip,Bx_]
 have hd:(eK!).map A_=ds:=List.map_snd_zip qP!;have fin:∀{L':ls!} {st:SortSt},L'.Perm eK!->(A!).toList=L'.map c_->L'.map A_=Jo Nv ds->failedOf st=none->
   P ic_ {s with heap:=h3.update a (Obj.mapSeq λ_=>(A!).map A_)}:=λ{L' st} b1 b2 b3 b4=>by
  have zu:(A!).map A_=(qZ_).toArray:=by
   apply By!;rw[Array.toList_map,b2,JL];rfl
  rw[zu];refine hP _ _ _ (kG (s:={s with heap:=h3}) (wr:=[a]) (t':=s.toks) I1 qW_ λb o hb q=>(BJ!).trans q) ?_ (OF mh λ_=>(qZ_).toArray);rw[<-b3];exact jM λq hq=>(mem q (b1.mem_iff.mp hq)).2
 have WD:∀{L':ls!} {st:SortSt},L'.Perm eK!->(A!).toList=L'.map c_->((A!).map A_).size<=sizeLine+1:=λ{L' st} b1 b2=>by
  rw[Array.size_map,<-JU,b2,IK,b1.length_eq,KH,KH,JV];omega
 by_cases L:kk!<2
 .rw[HY L,HY L];refine HI ac_;show"#.";rw[StateT.run_pure];refine HI ac_;show"#.";refine HI qZ!;refine HI (OV mh rfl ?_ cj_ (WD (L':=(f4!).zip ds) (OJ _) jw));simp only[failedOf,RF,IW,JK];refine HK (fin (L':=(f4!).zip ds) (st:=SortSt.mk' general' f3_ #[] 7 none) (OJ _) jw ?_ rfl);rw[hd];rw[HS,l1]at L
  match ds,L with
  |[],_=>rfl
  |[x],_=>rfl
  |_::_::r,L=>simp at L;omega
 .rw[HP L,HP L];rw[HS]at L;refine HI (a8f (vs:=us) By_ (λz=>by rw[z]at L;simp at L) ?_)
  .show"!j"
  .have hsz:(f3_).size=h!:=by rw[<-JU,jw,IK,KH,KH];omega
   have hk:∀q∈(f4!).zip ds,Hy h3 q.1.1 (Nv q.2).1 (Nv q.2).2:=λq hq=>(mem q hq).1;have f9:(f5!).Nodup:=by rw[hd];exact nd
   refine HI (KL (b8p (kd:=Yi true) (a0:=us.toArray.zip cD!) (r:=λp=>Jp f5! (Mb h3 p.1)) (Q:=λ_ h2=>(y_).Perm f3_/\failedOf h2=none/\Up (λp=>Jp f5! (Mb h3 p.1)) y_ (f3_).size)
    (BC!) BB_ BD! BC_ λh2 a1 a2 a3=>BE!) ?_ λ_ _ e=>e)
   .rw[jw]at J hy;obtain⟨p,hp,rfl⟩:=IH.mp J;obtain⟨q,a9,rfl⟩:=IH.mp hy;refine yJ lA_ lB! ?_;have mm:∀p∈(f4!).zip ds,Nv p.2∈((eK!).map A_).map Nv:=λp hp=>IB (IB hp);have hh:decide q0!=Lj (Nv p.2) (Nv q.2):=by
     show"#B"
    have uo:Q (decide q0!) {s with heap:=h3}:=hq;rw[hh]at uo;exact uo
   .show"!E";refine HI qZ!;refine HI (OV mh rfl ?_ cj_ (WD b1 b2));rw[a2];simp only[RF,IW,JK];exact HK (fin b1 b2 BE_ a2)
def Xg(f:List V->VK->Hp->Prop):List V->Hp->VK->Prop:=λxs H Q=>∃d es ep ys,xs=[.ref d]/\H d=some dB_/\Bc ys eJ_/\f ys Q H
def uZ{es:ae!}{acc:af!}(hi:BR!):lJ_=es.map kL!:=by
 apply RG;intro i;rw[JC];by_cases h:i<aj!
 .have Y:i<acc.size:=by rw[hi.1];exact h
  show"!k"
 .rw[BR_,JW a!];rfl
def oV(hc:a4!):Kj X d6_ q0_:=by
 intro h1 s Z H xs us Q I r ⟨d,es,ep,ys,e1,e2,hv,k⟩;subst e1;cases r with
 |cons ra rb=>
  cases rb;cases ra;obtain⟨⟨h3,h4,h5⟩,_⟩:=q1!;refine W.kdl_call (b2y h4) bL! h3 fL! λh' tk acc c hk hs hi=>?_;have hn:H o_=none:=I.hok.fresh y!;have f:=I.fpOk (H':=H) y! hn;refine⟨de_,upd H s.heap.objs.size ba_,?_,rfl,k _ hn⟩;have ia:=uZ hi;refine(I.kept (t':=tk) hk).track (us:=lJ_) (n:=c) (by rw[Array.toArray_toList];exact hs) (by rw[ia];exact hv) ?_ hn I.sz f.2.1 f.2.2.2.2.1 f.2.2.2.2.2;rw[hv.length,IK];exact cY h5
def Nr(M:Mh):List D->Option D
 |[d]=>(Ee M d).map λq=>.lst h3_
 |_=>none
def a1b{K:yS!}{kvs:i!}{es:ae!}(ok:fI!):∃ys,An K G fH_ ys/\Bc ys eJ_:=by
 have:∀{kvs:i!} {es:ae!},Paired qV! kvs es->Paired f2! fH_ eJ_:=λ{kvs es} h=>by
  induction h with
  |nil=>exact .nil
  |cons a _ ih=>exact .cons a ih
 exact mI (this qV_)
def a9i{K:yS!}:So P w K q0_ Nr:=by
 show"!T";unfold Nr at e;show"!6"
 .obtain⟨q,e1,rfl⟩:=HU.mp e;show"!>";exact⟨q.1,es,q.2.2,ys,rfl,Y,g2,λl hl=>k _ _ _ zO_ (dR (sub.free hl) g1)⟩
 .cases e
def Xf(K:yS!):List V->Hp->VK->Prop:=λxs H Q=>∃G ds,Bk G H/\(∃d es ep,xs=[.ref d]/\H d=some dB_/\Paired f2! ds eJ_)/\lK_=true/\(lL_).Nodup/\h!<64/\∀v G' H',Co G H G' H'->Ax K G' (.lst lM_) v->Q v H'
def zX(hc:a4!):Kj X lF_ (Xf X.K):=by
 intro h1 s Z H xs us Q I r ⟨G,ds,sub,⟨d,es,ep,e1,e2,hv⟩,q1,q2,q3,k⟩;subst e1;cases r with
 |cons ra rb=>
  cases rb;cases ra;obtain⟨⟨h3,h4,h5⟩,_⟩:=q1!;have lz:aj!=h!:=by rw[gN hv,IK]
  refine Calls.call_function_entry kind_sorted plain_sorted entry_sorted (args_sorted1 _) ?_;unfold Builtin.«sorted»;refine HI (m:=BL_) ac_;refine HI (W.kdu_collect (b2y h4) bL! h3 fL! λh' tk acc hk hi=>?_);have ia:=uZ hi;refine HI (QP ?_ (by rw[ia,IK,JV];omega));rw[ia];have I1:=I.kept (t':=tk) hk;have lh:(h'.push ii_).get? h'.objs.size=some ii_:=IP _ rfl;have I2:Inv X h1 Z H {s with heap:=h'.push ii_,toks:=tk}:=I1.kept (t':=tk) λb u q=>HM _ q;have hn:H h'.objs.size=none:=I1.hok.fresh y!;refine HI (JO (JP slot_list_sort BM_ entry_list_sort ?body (args_list_sort _)))
  case body=>
   refine d1v (s:={s with heap:=h'.push ii_,toks:=tk}) I2 sub hv lh hn (I1.fpOk y! hn) q1 q2 q3 λs3 us3 n3 I3 p3 zy=>⟨_,rfl,HK ph_⟩;exact b2z I1 I3 sub y! p3 BQ! zy hn k
def Sr(M:Mh):List D->Option D
 |[d]=>(Ee M d).bind λq=>(Xd h3_).map D.lst
 |_=>none
def c3c{K:yS!}:So P w K (Xf K) Sr:=by
 show"!T";unfold Sr at e;show"!6"
 .obtain⟨q,e1,e⟩:=HJ.mp e;obtain⟨l,e2,rfl⟩:=HU.mp e;unfold Xd at e2;split at e2
  .rename_i hz;cases e2;show"!>";exact⟨G,_,sub,⟨q.1,es,q.2.2,rfl,Y,mG g1 g2⟩,hz.1,hz.2.1,hz.2.2,k⟩
  .cases e2
 .cases e
end
def Rw(M:Mh):D->D
 |.fn a=>match M a with|some (.lst xs)=>.lst xs|_=>.fn a
 |d=>d
def Pt(M:Mh)(x y:D):Option D:=Eg (Rw M x) (Rw M y)
def b3k{P:yp!}{w:xV!}{K:yS!}{M:Mh}{G H:Hp}(sub:K_)(m:cm!)(r:cF_):Ax K H (Rw M d) v:=by
 cases d<;>first|exact r.mono sub|skip
 rename_i a;simp only[Rw];split
 .rename_i xs hM;show"!}";cases gD r;exact Ax.lst (Fz.of Y) (L.mono sub)
 .exact r.mono sub
def jO{P:yp!}{w:xV!}{K:yS!}:Yf P w K (AE K) Pt:=by
 show"!_";unfold Pt Eg at e;show"!6"
 .show"!u";cases e;exact⟨_,_,b3k sub m rx,b3k sub m ry,h.1.1,h.1.2,h.2,ep_⟩
 .cases e
def Da(K:yS!)(C:x7!)(m qual:Str)(st:Stmt)(ps:q!):Prop:=∃ae fd,Xz K m qual st ae fd/\Fc K fd ps []/\Wr K C m ae
def Ut(K:yS!)(mg:z!)(x:Str)(C:x7!)(qual:Str)(st:Stmt)(ps:q!):Prop:=mg x=some ay_/\∃ae fd,Xz K "__init__" qual st ae fd/\Fc K fd ps []/\Mk K C ae
section
variable{P:yp!}{w:xV!}{K:yS!}{mg:Str->Option Value}{base h:Heap}{x qual:Str}{st:Stmt}{N ps:List Str}{k:Nat}{hx:List Nat}{q:WS}{C:x7!}
def bV(d:yA_)(S:d9_)
  (hb:∀{ae:x7!} {ag:x5!} {A:x6!} {outer:ax!} {s:yR!} {H:Hp} {E:XK},Al k ps!->Vm (ps_).nox [] hx bQ_ q):
  Jv P w K mg base V! x ps li_:=by
 obtain⟨ae,fd,F,B,m⟩:=d;exact⟨ae,fd,lT_,B,m,F.kp⟩
def cJ(c:Uu K C)(d:Da K C x qual st ps)(S:d9_)
  (hb:q7_):
  Dt P w K mg base V! C x ps li_:=by
 obtain⟨ae,fd,F,B,m⟩:=d;exact⟨c,ae,fd,m,lT_,B⟩
def a3l(d:Ut K mg x C qual st ps)(S:d9_)
  (hb:q7_):
  Wq P w K mg base V! x C ps li_:=by
 obtain⟨m,ae,fd,F,B,mk⟩:=d;exact⟨m,ae,fd,mk,lT_,B⟩
def dO{od an:a7_}{eh:b6_}{kV:x5!}
  (a:W.findIn K ay_ x=some e3!)(i:m7_)(l:vH!)
  (c:jb!)(k:gZ_)
  (b:vF_):Da K C x qual st ps:=
 ⟨f,_,kF_,pt_,⟨a,i,k⟩⟩
def c0x{od an:a7_}{eh:b6_}{kV:x5!}(m:mg x=some ay_)
  (a:tk_)(i:m7_)(l:K.lookup f=some ⟨oc,od,.func q8_,eh⟩)
  (c:jb!)(k:gZ_)(mm:tk!)(kc:W.keepIn K ay_=true)
  (b:∀(kV br pm:x5!) (an:a7_) (ag ct:x5!) (us:i_),aw!=V_->bindArgs q8_ db_=pure da_):Ut K mg x C qual st ps:=
 ⟨m,f,_,kF_,pt_,⟨mm,a,i,kc⟩⟩
def c5o(hd:AY K mg x st [y])(S:Aj N [y] bE_)(gh:mg x=some ff!)
  (hb:∀(base:Heap) (ae:x7!) (ag:x5!) (A:x6!) (outer:ax!) (s:yR!) (H:Hp) (E:XK),Al k ps!->Vm (ps_).nox [] hx bQ_ q):
  ∃fd:FuncData,(∀(s:yR!) (u:x5!),BindsTo s fd jy! [(y,u)])/\∀base:Heap,K.In base->base.Ns mainGlobals mg->Fq P w K mg base Qf V! fa fd [y] (Yc P w K 1 (Bx N 1 q)):=by
 obtain⟨f,fd,F,B,m⟩:=hd;rw[gh]at m;cases m;exact⟨fd,λs u=>.of_eq (B [u] rfl),λbase _ _=>wD F S λag A outer s H E hr=>hb base _ ag A outer s H E hr⟩
def oG{α:Type}{p:f7!}(h:∀a,p [a]):∀us:List α,aw!=1->p us
 |[a],_=>h a
def lM{α:Type}{p:f7!}(h:∀a b,p aq!):∀us:List α,aw!=2->p us
 |[a,b],_=>h a b
def us3{α:Type}{p:f7!}(h:∀a b c,p f7_):∀us:List α,aw!=3->p us
 |[a,b,c],_=>h a b c
def us4{α:Type}{p:f7!}(h:∀a b c d,p [a,b,c,d]):∀us:List α,aw!=4->p us
 |[a,b,c,d],_=>h a b c d
def us5{α:Type}{p:f7!}(h:∀a b c d e,p [a,b,c,d,e]):∀us:List α,aw!=5->p us
 |[a,b,c,d,e],_=>h a b c d e
def M0:Mh:=λ_=>none
def c5n{g:WF}{H:Hp}{ns:w_}(hS:Fz K H a b7_)(hg:g lX! M0 λd _=>d=.bl true):Yc P w K 1 g bl! H jy_ λ_ _ _=>False:=
 ⟨rfl,H,lX!,M0,_,Bk.refl H,⟨λa c e=>by cases e⟩,An.cons (Ax.lst hS (a1h ns)) An.nil,hg,λd M' v G' H' r _ _ q=>by subst r;exact dA q⟩
end
end DL
namespace L2
open PySem PySem.Spec PyProof.Rows
def c4p{X:Cx}{i:Nat}{tg:Expr}{scope:Scope}{pos:Pos}{NL:q!}{ix:l!}{wi:TI}{g:TG}{tt:TT}{te:TE}
  (hN:bv_)(df:ak_)(J:bw!)
  (cm:di_)(cg:dj!)(j7:∀y∈ca!,y.2=.local->scope.names.lookup y.1=some .local)
  (io:g5_)(cap:di!)(calm:a4!)(be:mL_)
  (hg:g6!)(hi:v8!)(he:v8_)
  (hs:c7!:=by intro _;rfl)
  (ke:swapsWith ik! (some iF!) pos.line X.env=pure true:=by rfl)
  (hf:X.fn x=true\/X.env.scope.names.lookup x=some .local:=by first|exact .inl rfl|exact .inr rfl|assumption):
  PS X (.Assign [.Name x ip] ik! pos) (AB v9! eU!):=by
 intro h1 s Z H D I h;show"!R"
 rw[exec_Assign_Name_used x ip _ pos ke];refine HI (QO gD!);unfold evalThenUse;refine HI (wpAny_comprehension_free (use:=some _) rfl hs ce.eq cm j7 v9_);obtain⟨it,fp,tn,af,H2,e,I2,T,bh,f2,hw⟩:=L;subst e;refine a1t (RR:=λacc C=>compPost e_ X.A X.xe (some _) _ acc C) cm cg ce cap calm (hg cl) (hi cl) (he cl) I2 T bh f2 hw λD' C us n ys H' s' I' eD rv ap nD hD hC jl nC ⟨m,hn⟩ fin=>?_;have fw:∀b,b<N!->b≠C/\b≠D':=λb hb=>wa!;have qc:∀x c,X.env.cells.lookup x=some c->c<N!:=λx c h=>let⟨_,_,ho,_⟩:=I2.cell x c h;IQ ho;have td:∀p∈X.pn++h1,p.1<N!:=λp hp=>IQ (I2.pin p hp).1;have ID:=I'.track (D:=D') (us:=us) (n:=n) eD rv ap nD (JB I2.sz hD) (HR (g7_).2) wd_ λp hp=>(jP!).2;show wpAny e_ X.A (assign iF! X.env (.ref D')) _ _ s';refine HI (m:=standAt ip) (QO ?_);refine wpAny_bindName (a0c ID hN df J (v:=.ref D') rfl (λs3 I3 ⟨a,sb,ha⟩=>?_) hf);have haC:a≠C:=by
  obtain rfl|ha:=ha
  .exact(g7_).1
  .exact(fw _ (qc _ _ ha)).1
 refine⟨m,hn.sameBut sb (HR haC),λh' b6=>?_⟩;have nC':upd H' D' ba_ C=none:=by rw[bD (HR jl)];exact nC
 have IC:Inv X h1 (Z.set i (some (.ref D'))) (upd H' D' ba_) {s3 with heap:=h',toks:=s3.toks}:=I3.turned (it:=C) wb! nC' (HR (g7_).1) wc! wd! λp hp=>(jP!).1;exact HK (HK ⟨_,_,IC,fin D' nD⟩)
end L2
namespace DL
open PySem PySem.Spec PyProof.Rows L2
section
variable{X:Cx}{own:List Nat}{tg:Expr}{fi:WI}{ft:WT}
def jG{i:Nat}{scope:Scope}{pos p2:Pos}{NL:q!}{ix:l!}{g:TG}{bnd:ai_}{fe:WE}
  (hN:bv_)(df:ak_)(J:bw!)
  (cm:di_)(cg:dj!)(j7:∀y∈ca!,y.2=.local->scope.names.lookup y.1=some .local)
  (io:g5_)(cap:di!)(nv:jT!)(calm:a4!)(be:ql!)
  (hg:g6!)(ny:oW!)(hi:Av!)(he:Av_)
  (bu:bp!:=by decide)(hs:c7!:=by intro _;rfl)
  (ke:swapsWith ik! (some dq!) pos.line X.env=pure true:=by rfl)
  (hf:X.fn x=true\/X.env.scope.names.lookup x=some .local:=by first|exact .inl rfl|exact .inr rfl|assumption):
  MS X own own (.Assign [cI!] ik! pos) (Am i Aw!):=
 qM (c4p hN df J cm cg j7 io cap calm be.ok hg hi xe! hs ke hf) λM0 G0 F0 E Z G H ρ M R sr e k1 k2=>⟨G,ρ,M,_,sr.st,e,λds ck M1 af G1 H1 r1 x1 m1 f7=>by
  obtain⟨hb,r1⟩:=r1;have p9:=sr.st.grow x1 m1;refine b5c hb f7 ny Aw_ r1 λjm ys M' G' H' r x m q _ p hp=>?_;exact k1 _ M' _ _ _ r ((((Al!).grow x m).grow (.ext hp!) (m.ext hp!)).set bu (dR oW_ q))⟩
end
end DL
namespace DL
open PySem PySem.Spec PyProof.Rows L2
def GA:Option lY_->Array Value
 |none=>#[]
 |some (b,t)=>#[.int b t,.int b t]
def AN:Option lY_->List Int->Int
 |some (b,_),xs=>xs.foldl max b
 |none,x::xs=>xs.foldl max x
 |none,[]=>0
section
variable{P:yp!}{w:xV!}{A:x6!}{R:Result->Shared->Prop}{s:yR!}{l I S:x7!}{dv:x5!}{full:List Value}
def wM{h h':Heap}{f:Obj->Obj}(k:∀b o,b∉[I]->h.get? b=some o->h'.get? b=some o):∀b o,b≠I->b≠S->h.get? b=some o->(h'.update S f).get? b=some o:=λb o b1 b2 e=>(JI _ _ (HR b2)).trans (k b o ra_ e)
def b8f{b:Int}:(GA (some (b,t))).size<=sizeLine:=by show 2<=sizeLine;rw[JV];decide
def b4f(hh:dc!)(zz:l≠I)(ur:S≠I)(z6:S≠l):∀(xs:w_) (us:i_) (j:Nat) (acc:Option lY_) (h:Heap) (tk c:Nat),full.drop j=us->j<=il!->IntsAre us xs->(acc=none->xs≠[])->
  h.IsListIter I l j->h.IsList l il_->h.get? S=some (seqObj "list" (GA acc) c)->
  (∀t h' ig,rb!->R (.ok (.ret (.int (AN acc xs) t))) {s with heap:=h',toks:=ig})->
  codeAny G_ A rd_ R {s with heap:=h,toks:=tk}
 |[],us,j,acc,h,tk,c,hd,hj,hi,ha,it,il,hS,hR=>by
  have W:=Walks.list (prog:=P) (w:=w) (A:=A.in1) hh I l zz il_;cases hi;have e1:il!<=j:=List.drop_eq_nil_iff.mp hd;have ej:j=full.toArray.size:=by rw[HS];omega
  match acc,ha with
  |none,ha=>exact absurd rfl (ha rfl)
  |some (b,t),_=>
   refine codeAny_builtin PySem.F.entry_max_loop ?_;rw[re!];refine HI re_;refine HI (wpAny_tryCatch (W.done _ _ _ ⟨by rw[<-ej];exact it,il⟩ λh' ig k=>?_));exact HI (wpAny_updateSeq (hz:=b8f) (k S _ rg! hS) rfl (HI (NR (HK (hR t _ _ (wM k))))))
 |x::xs,us,j,acc,h,tk,c,hd,hj,hi,ha,it,il,hS,hR=>by
  have W:=Walks.list (prog:=P) (w:=w) (A:=A.in1) hh I l zz il_;have nm:rh!="max.loop":=by decide
  cases hi with
  |@cons _ t us _ hi=>
   have am:j<il!:=by
    obtain z|z:=LK j il!
    .exact z
    .rw[List.drop_eq_nil_iff.mpr z]at hd;cases hd
   have hv:full[j]?=some (.int x t):=by
    have:=congrArg (·[0]?) hd;simpa[List.getElem?_drop]using this
   have j3:full.drop (j+1)=us:=by
    rw[<-List.tail_drop,hd];rfl
   refine codeAny_builtin PySem.F.entry_max_loop ?_;rw[re!];refine HI re_;have go:∀(y:Int) (ty:Tok),y=max (AN acc [x]) y->∀(h':Heap) (ig c':Nat),rb!->h'.IsListIter I l (j+1)->h'.IsList l il_->h'.get? S=some (seqObj "list" #[.int y ty,.int y ty] c')->AN acc e5_=xs.foldl max y->
     codeAny G_ A rd_ R {s with heap:=h',toks:=ig}:=λy ty _ h' ig c' k it' il' jx e=>
    b4f hh zz ur z6 xs us (j+1) (some (y,ty)) h' ig c' j3 am hi l1_ it' il' jx λt' L tk2 k2=>by
     have:=hR t' L tk2 λb o b1 b2 e=>k2 b o b1 b2 (k b o b1 b2 e);rw[e]at this;exact this
   refine HI (wpAny_tryCatch (W.item j _ _ _ (by rw[HS];exact am) ⟨it,il⟩ λv h' ig hP st k=>?_));have ev:v=.int x t:=by
    have:full[j]?=some v:=by simpa using hP
    rw[hv]at this;exact(JJ this).symm
   subst ev;have jx:=k S _ rg! hS;have kk:∀b o,b≠I->b≠S->h.get? b=some o->h'.get? b=some o:=λb o b1 _ e=>k b o ra_ e
   match acc,hR,jx,go with
   |none,hR,jx,go=>
    show wpAny _ A.in1 (updateSeq S (λ_=>#[.int x t,.int x t])>>=_) _ _ _;refine HI (wpAny_updateSeq jx rfl ?_);rw[nm];refine HK ⟨RQ LU _,go x t (by simp[AN]) _ _ _ (wM k) ?_ ?_ rj! rfl⟩
    .obtain⟨o,e1,e2⟩:=st.1;exact rk!
    .obtain⟨o,e1,e2⟩:=st.2;exact rl!
   |some (b,tb),hR,jx,go=>
    show wpAny _ A.in1 (tryCatch (holding [.int x t,.int x t] (richCompare .Gt (.int x t) (.int b tb)>>=_)) _>>=_) _ _ _;refine HI (wpAny_tryCatch (JO (HI (CmpOf.ints_gt (prog:=P) (w:=w) (A:=A.in1) (P:=λi v=>∃t,v=.int (if i=0 then x else b) t) (λi=>if i=0 then x else b) (λi v h=>h) 0 1 _ _ _ _ _ gX_ ⟨tb,rfl⟩ ?_))));refine HI (JO (JN ?_));refine HI (NR ac_);show wpAny _ A.in1 (if decide (x>b)=true then _ else _) _ _ _;by_cases g:x>b
    .rw[IV g,k_];refine HI (wpAny_updateSeq (hz:=b8f) jx rfl (HI (NR ?_)));rw[nm];refine HK ⟨RQ LU _,go x t rm_ _ _ _ (wM k) ?_ ?_ rj! (by show(e5_).foldl max b=_;rw[OC,show max b x=x by omega])⟩
     .obtain⟨o,e1,e2⟩:=st.1;exact rk!
     .obtain⟨o,e1,e2⟩:=st.2;exact rl!
    .rw[IF g,W_];refine HI (NR ?_);rw[nm];exact HK ⟨RQ LU _,go b tb rm_ _ _ _ kk st.1 st.2 jx (by show(e5_).foldl max b=_;rw[OC,show max b x=b by omega])⟩
end
end DL
namespace DL
open PySem PySem.Spec PyProof.Rows L2
def b7q(a v:x5!):argsOk "max" ⟨[a],[(Str.ofString "default",v)]⟩:=by unfold argsOk;kernel_rfl
def d1c:bootBuiltins "max"=some ro!:=by decide+kernel
section
variable{P:yp!}{w:xV!}{A:x6!}{E:Value->Shared->Prop}{Q:Value->Shared->Prop}{s:yR!}{l:x7!}{dv:x5!}
def c1c{us:i_}{xs:w_}(hh:dc!)(hl:BK_)(hi:IntsAre us xs)(b8:xs≠[])
  (hQ:∀t h' ig,(∀b o,s.heap.get? b=some o->h'.get? b=some o)->Q (.int (AN none xs) t) {s with heap:=h',toks:=ig}):
  wpAny G_ A (call ro! [.ref l] l0!) Q E s:=by
 have nm:rh!="max.loop":=by decide
 obtain⟨ol,hol,_⟩:=id hl;have WG:l<o_:=IQ hol;refine kmb_tree PySem.F.kind_max PySem.F.plain_max PySem.F.entry_max (b7q _ _) ?_;refine HI (wpAny_of_eq (show Builtin.Builtins.bindParams "max" ["key","default"] 0 ⟨[],l0!⟩=pure [none,some dv]from rfl) ?_);refine HI (HK (HI (wpAny_pyIter_list hl (HI qR!))));rw[nm];generalize hG:s.heap.push {cls:=.type "list_iterator",data:=.fields #[.ref l,.int 0 0]}=G;have hS:G.objs.size=o_+1:=by rw[<-hG];exact size_push' ..
 have gI:G.get? o_=some {cls:=.type "list_iterator",data:=.fields #[.ref l,.int 0 0]}:=by rw[<-hG];exact IP _ rfl
 have gk:∀b o,s.heap.get? b=some o->G.get? b=some o:=λb o e=>by rw[<-hG];exact HM _ e
 refine HK ⟨RQ LU _,b4f (full:=us) (l:=l) (I:=o_) (S:=G.objs.size) hh (JG WG) (by rw[hS];exact MV (OM _)) (by rw[hS];exact MV (PX WG)) xs us 0 none _ _ 0 rfl cj_ hi (λ_=>b8)
  ⟨_,HM _ gI,rfl,rfl⟩ ?_ kB! λt h' ig k=>hQ t h' ig λb o e=>?_⟩
 .obtain⟨o,e1,e2⟩:=hl;exact⟨o,HM _ (gk _ _ e1),e2⟩
 .have hb:=IQ e;exact k b o (JG hb) (by rw[hS];exact JG (PX hb)) (HM _ (gk b o e))
end
section
variable{X:Cx}{own:List Nat}{e:Expr}{fa:WE}{p p2 kp pos:Pos}{k:Int}{j:Nat}
def a8n:∀{xs:w_} {us:i_},Bc (xs.map V.int) us->IntsAre us xs
 |[],_,.nil=>.nil
 |x::xs,_,.cons r t=>by obtain⟨tk,rfl⟩:=r;exact .cons x tk (a8n t)
def Yw:List D->Option D
 |[.lst ds]=>(Nl ds).bind λxs=>match xs with|[]=>none|x::xs=>some (.int (xs.foldl max x))
 |_=>none
def c5k(hgm:Gl X "max")(zx:X.mg "max"=none)(hc:a4!)(ha:ME X own e fa)(he:hr!:=by rfl):
  ME X own (.Call (.Name "max" p) [e] [⟨some "default",.Constant iq_ j p2,kp⟩] pos) (w1 (λ_=>Yw) (Ab fa Af)):=⟨by
 intro h1 s Z H Q I ⟨G,ρ,M,R,st,e1,kq⟩;refine LJ (kU I hgm zx d1c ?_ b_ b_);refine callWith_kw (dM ((aC ha aI he).ok pos h1 s Z H _ I ⟨G,ρ,M,_,st,e1,λds M1 vs G1 H1 r1 x1 m1 q1=>(⟨ds,M1,G1,r1,x1,m1,q1⟩:∃ds M1 G1,Dz (Yw ds) (λd=>R d M1)/\XM M G H M1 G1 H1/\MR X.prog X.w X.K M1 G1 H1/\An X.K G1 ds vs)⟩) λus s1 ⟨vs,H1,I1,r,ds,M1,G1,r1,x1,m1,q1⟩=>?_) lJ! lJ! rfl rfl;refine kws_cons (wpAny_Constant_int (kws_nil ?_));obtain⟨d,Y,L⟩:=dB r1;unfold Yw at Y;split at Y
 .rename_i qe;obtain⟨xs,e2,Y⟩:=HJ.mp Y;obtain⟨v,t,rfl,rv,rr⟩:=bR q1;cases cS rr;obtain⟨l,vs,rfl,sq,rx⟩:=bT rv;rw[nR rx e2]at sq;obtain⟨its,hv,pl,hz⟩:=I1.list BN_;obtain⟨u,rfl,ru⟩:=uI r;cases ru
  match xs,Y with
  |x::xs,Y=>
   cases Y;exact c1c (s:={s1 with toks:=s1.toks+1}) (I1.ok.hd hc) pl.isList (a8n hv) d! λt h' ig kp=>⟨.int _,H1,I1.kept (t':=ig) kp,gX_,kq _ M1 _ G1 H1 L x1 m1 Ax.int⟩
 .cases Y⟩
end
end DL
namespace K24
open PySem L2 DL
nonrec def top(i:Nat):Stmt:=PySem.Challenge.pw_manyhands_k24_whole_back.main.body.getD i rr_
def Jg(i j:Nat):Stmt:=match top i with
 |.ClassDef _ _ _ b _ _ _ _ _ _ _=>b.getD j rr_
 |s=>s
structure Au where
 mk::
 A0:Addr
 A5:Addr
 A6:Addr
 A7:Addr
 A8:Addr
 A9:Addr
 B0:Addr
 B1:Addr
 B2:Addr
 B3:Addr
 B4:Addr
 B5:Addr
abbrev Pm:Stmt:=top 12
def a6i:Aj p! p! (Ad Pm):=g!
abbrev Po:Stmt:=top 13
def a6k:Aj gb_ gb_ (Ad Po):=g!
abbrev Ln:Stmt:=top 14
def wU:Aj p! p! (Ad Ln):=g!
abbrev Qr:Stmt:=top 15
def b0j:Aj p! p! (Ad Qr):=g!
abbrev Ku:Stmt:=top 16
def vI:Aj p! p! (Ad Ku):=g!
abbrev Qs:Stmt:=top 17
def b0k:Aj p! p! (Ad Qs):=g!
abbrev Nd:Stmt:=top 18
def zG:Aj p! p! (Ad Nd):=g!
abbrev Oc:Stmt:=top 19
def a2t:Aj p! p! (Ad Oc):=g!
abbrev Qp:Stmt:=top 20
def b0h:Aj dK! dK! (Ad Qp):=g!
abbrev No:Stmt:=top 21
def b0g:Aj p! p! (Ad No):=g!
abbrev Pn:Stmt:=top 22
def a6j:Aj p! p! (Ad Pn):=g!
abbrev Kl:Stmt:=top 24
def a2u:Aj gc! gc! (Ad Kl):=g!
abbrev Qt:Stmt:=top 25
def b0l:Aj p! p! (Ad Qt):=g!
abbrev Kv:Stmt:=top 26
def vJ:Aj p! p! (Ad Kv):=g!
abbrev Jx:Stmt:=top 27
def sJ:Aj bh! bh! (Ad Jx):=g!
abbrev Pp:Stmt:=top 28
def a6l:Aj a1_ a1_ (Ad Pp):=g!
abbrev Sj:Stmt:=Jg 30 0
def b6b:Aj aW! aW! (Ad Sj):=g!
abbrev Oe:Stmt:=Jg 30 1
def a2v:Aj J! J! (Ad Oe):=g!
abbrev Jk:Stmt:=Jg 30 2
def gC:Aj ru_ l7! (Ad Jk):=g!
abbrev Kw:Stmt:=Jg 30 3
def iB:Aj rv! J! (Ad Kw):=g!
abbrev Nf:Stmt:=Jg 30 4
def gR:Aj [ak!,gV!,S!] aW! (Ad Nf):=g!
abbrev Ng:Stmt:=Jg 31 0
def zH:Aj aW! aW! (Ad Ng):=g!
abbrev Lq:Stmt:=Jg 31 1
def wV:Aj J! J! (Ad Lq):=g!
abbrev Ih:Stmt:=Jg 31 2
def oI:Aj J! J! (Ad Ih):=g!
abbrev Ho:Stmt:=Jg 31 3
def gX:Aj gc_ gc_ (Ad Ho):=g!
abbrev Lp:Stmt:=Jg 31 4
def mE:Aj rx! cZ_ (Ad Lp):=g!
abbrev Ii:Stmt:=Jg 31 5
def oJ:Aj gd! gd! (Ad Ii):=g!
abbrev Kx:Stmt:=Jg 31 6
def vK:Aj cZ_ cZ_ (Ad Kx):=g!
abbrev Jz:Stmt:=Jg 31 7
def dU:Aj ry_ l8! (Ad Jz):=g!
abbrev Lr:Stmt:=Jg 31 8
def iQ:Aj rz_ l8_ (Ad Lr):=g!
abbrev Gz:Stmt:=Jg 31 9
def lU:Aj gd_ gd_ (Ad Gz):=g!
abbrev Hn:Stmt:=Jg 31 10
def mF:Aj J! J! (Ad Hn):=g!
abbrev Gh:Stmt:=Jg 31 11
def kL:Aj J! J! (Ad Gh):=g!
abbrev Fi:Stmt:=Jg 31 12
def oH:Aj aW_ aW_ (Ad Fi):=g!
abbrev Fu:Stmt:=Jg 31 13
def oZ:Aj aW_ aW_ (Ad Fu):=g!
abbrev Ha:Stmt:=Jg 31 14
def lV:Aj aW_ aW_ (Ad Ha):=g!
abbrev Ix:Stmt:=top 33
def oY:Aj bh! bh! (Ad Ix):=g!
abbrev Nc:Stmt:=top 34
def jK:Aj rB! a1_ (Ad Nc):=g!
abbrev Se:Stmt:=top 35
def jU:Aj rB_ a1_ (Ad Se):=g!
abbrev Vt:Stmt:=top 36
def c4e:Aj ge! ge! (Ad Vt):=g!
abbrev Sf:Stmt:=top 37
def jV:Aj rC_ a1_ (Ad Sf):=g!
abbrev Ra:Stmt:=Jg 40 0
def b0m:Aj gf! gf! (Ad Ra):=g!
abbrev Of:Stmt:=Jg 40 1
def a2y:Aj gf_ gf_ (Ad Of):=g!
abbrev Od:Stmt:=top 41
def kK:Aj [J_,eM_,cY_] af_ (Ad Od):=g!
abbrev Nb:Stmt:=top 42
def zF:Aj af_ af_ (Ad Nb):=g!
abbrev Oa:Stmt:=top 43
def a2p:Aj ax_ ax_ (Ad Oa):=g!
abbrev Qq:Stmt:=top 44
def b0i:Aj ax_ ax_ (Ad Qq):=g!
abbrev Ob:Stmt:=top 45
def a2s:Aj b0_ b0_ (Ad Ob):=g!
abbrev Jy:Stmt:=top 46
def dS:Aj rE_ bJ! (Ad Jy):=g!
abbrev Lo:Stmt:=top 47
def gB:Aj rF_ mc_ (Ad Lo):=g!
abbrev Hd:Stmt:=top 48
def sK:Aj bJ! bJ! (Ad Hd):=g!
abbrev Si:Stmt:=top 49
def b6a:Aj ax_ ax_ (Ad Si):=g!
abbrev Es:Stmt:=top 50
def dY:Aj rG_ af_ (Ad Es):=g!
abbrev Qn:Stmt:=top 51
def wS:Aj rH! ax_ (Ad Qn):=g!
abbrev Vs:Stmt:=top 52
def vT:Aj rH_ bJ! (Ad Vs):=g!
abbrev Kt:Stmt:=top 54
def lN:Aj [J_,S!,eN_] [J_,S!] (Ad Kt):=g!
abbrev Hm:Stmt:=top 55
def gW:Aj [J_,a2!,eN_] Y! (Ad Hm):=g!
abbrev Gg:Stmt:=top 56
def kJ:Aj b1! b1! (Ad Gg):=g!
abbrev Tp:Stmt:=top 57
def b8k:Aj Y! Y! (Ad Tp):=g!
abbrev Sg:Stmt:=top 58
def b5y:Aj Y! Y! (Ad Sg):=g!
abbrev Pq:Stmt:=top 59
def a6m:Aj Y! Y! (Ad Pq):=g!
abbrev Vr:Stmt:=top 60
def c4d:Aj Y! Y! (Ad Vr):=g!
abbrev Sh:Stmt:=top 61
def b5z:Aj b1! b1! (Ad Sh):=g!
abbrev Lm:Stmt:=top 62
def a6h:Aj b0_ b0_ (Ad Lm):=g!
abbrev Kk:Stmt:=top 64
def a2r:Aj af_ af_ (Ad Kk):=g!
abbrev Vu:Stmt:=top 65
def b3d:Aj rJ! me! (Ad Vu):=g!
abbrev Xc:Stmt:=top 66
def c8k:Aj gg! gg! (Ad Xc):=g!
abbrev Sq:Stmt:=top 67
def a2q:Aj [J_,ge_,gV!] af_ (Ad Sq):=g!
abbrev Tt:Stmt:=top 69
def b8n:Aj c1_ c1_ (Ad Tt):=g!
abbrev Vv:Stmt:=top 70
def a2w:Aj vZ_ c1_ (Ad Vv):=g!
abbrev Pa:Stmt:=top 73
def b6c:Aj aI! aI! (Ad Pa):=g!
abbrev Sl:Stmt:=top 74
def nN:Aj v3! aI! (Ad Sl):=g!
abbrev Qv:Stmt:=top 75
def a6n:Aj v5! oh! (Ad Qv):=g!
abbrev Tr:Stmt:=top 76
def b8l:Aj gg_ gg_ (Ad Tr):=g!
abbrev Qz:Stmt:=top 77
def fK:Aj rM_ mg_ (Ad Qz):=g!
abbrev Sk:Stmt:=top 78
def fY:Aj rN_ mh_ (Ad Sk):=g!
abbrev Pr:Stmt:=top 79
def gY:Aj rO_ aI! (Ad Pr):=g!
abbrev Qu:Stmt:=top 80
def pA:Aj rO! aI! (Ad Qu):=g!
abbrev Qx:Stmt:=top 81
def jW:Aj rP! c2_ (Ad Qx):=g!
abbrev Qw:Stmt:=top 82
def wX:Aj rQ! mi_ (Ad Qw):=g!
abbrev Ts:Stmt:=top 83
def b8m:Aj c2_ c2_ (Ad Ts):=g!
abbrev Qy:Stmt:=top 84
def iR:Aj rQ_ mj_ (Ad Qy):=g!
abbrev Tq:Stmt:=top 85
def pZ:Aj rR_ aI! (Ad Tq):=g!
abbrev Km:Stmt:=top 86
def a2x:Aj b3! b3! (Ad Km):=g!
abbrev Iy:Stmt:=top 87
def wW:Aj b3! b3! (Ad Iy):=g!
abbrev Ml:Stmt:=top 88
def nO:Aj rS! os! (Ad Ml):=g!
abbrev Mm:Stmt:=top 89
def nQ:Aj rS_ ml! (Ad Mm):=g!
abbrev Qo:Stmt:=top 90
def gM:Aj rU! [bJ_] (Ad Qo):=g!
def Rc:Ae->Option Fl:= (Bl (Cu (Em "int" n!) (Cu (Dv (Em "bool" n!)) (f2 Kd (f1 Ge aN!) (f2 Gk (fC (.int 10)) mm_)))))
def Fw:List D->Option D:=Ci p! 1 (Rc)
def Rf:Ae->Option Fl:= (Bl (Cu (f1 Fw aN!) (Ce Kq Kd C! n! v_)))
def Hi:List D->Option D:=Ci gb_ 2 (Rf)
def Nh:Ae->Option Fl:= (Bl (Cu (f1 Fw aN!) (f2 Oj n! w!)))
def Dx:List D->Option D:=Ci p! 1 (Nh)
def Pb:Ae->Option Fl:= (sSeq (Gi (Mt iy_ (fT (f2 Lz dM_ S_))) c4_ Cs) (Bl (Cu (f1 Hi (Ac aX! (Ac gj! Ag))) (f1 Dx (Ac dN! Ag)))))
def Ed:List D->Option D:=Ci p! 1 (Pb)
def Ls:Ae->Option Fl:= (sSeq (Gi (Mt iy_ (fT (f2 Lz dM_ al_))) c4_ Cs) (Bl (Cu rZ_ (f1 Hi (Ac dN_ (Ac gj! Ag))))))
def Ec:List D->Option D:=Ci p! 1 (Ls)
def Mn:Ae->Option Fl:= (Bl (Ev (f1 Ed aN!) (Ev (f2 Ba n! eT!) (f2 Ba n! iz_))))
def Hh:List D->Option D:=Ci p! 1 (Mn)
def Kn:Ae->Option Fl:= (Bl (Ev r1! (f1 Ed aN!)))
def Fd:List D->Option D:=Ci p! 1 (Kn)
def Lv:Ae->Option Fl:= (Bl (Ev r1! (f1 Ec aN!)))
def Gc:List D->Option D:=Ci p! 1 (Lv)
def Sn:Ae->Option Fl:= (Bl (Cu (Ce Kq Kq (fC (.str " ")) n! (fC (.str "~"))) (f2 Lz (f1 Yv aN!) (fC (.int 37)))))
def Hf:List D->Option D:=Ci dK! 1 (Sn)
def Sm:Ae->Option Fl:= (sSeq (Gi (Mt (Ct (fT (Em "str" n!))) (Ct (fT (Ce Kq Kq w! dM_ gj!)))) c4_ Cs) (Bl (f1 Rr (Ac (Hx 1 [] (AR n!) E_ a3_ iB!) Ag))))
def Kh:List D->Option D:=Ci p! 1 (Sm)
def Re:Ae->Option Fl:= (Bl (f1 Hi (Ac n! (Ac c5! Ag))))
def Dw:List D->Option D:=Ci p! 1 (Re)
def Iu(t:Au):List ci!:=[("put",.tup [dO!,.fn t.A5]),("move",.tup [dO!,dO!,.fn t.A5]),("drop",.tup [dO!]),("write",.tup [dO!,.fn t.A6,.fn t.A7]),("cut",.tup r6_),("set",.tup [dO!,.fn t.B0,.fn t.B1]),("undo",.tup [.fn t.B2]),("redo",.tup [.fn t.B2])]
def Ll(t:Au):Addr->Option xK!:=λa=>if a=t.A0 then some Hh else if a=t.A5 then some Fd else if a=t.A6 then some Gc else if a=t.A7 then some Kh else if a=t.A8 then some Ec else if a=t.A9 then some Dx else if a=t.B0 then some Dw else if a=t.B1 then some Fw else if a=t.B2 then some Ed else none
def Ps(t:Au):Ae->Option Fl:= (sSeq (Gi (fT (f2 Lz dM_ iD!)) c4_ Cs) (Bl (f1 Rr (Ac (Hx 2 [] (AQ v_ n!) iE! a3_ iD_) Ag))))
def Hu(t:Au):List D->Option D:=Ci gc! 2 (Ps t)
def Pc(t:Au):Ae->Option Fl:= (sSeq (Gi (Mt iy_ (fT (f2 Ba dM_ C!))) c4_ Cs) (sSeq (Gi (Mt (Ct (fT (Em "str" aX!))) (fT (Yx gn! true aX!))) c4_ Cs) (sSeq (Gi (Ct (fT (f1 (Hu t) (Ac (Dp n! (Ap w!) Aq) (Ac (We gn! aX!) Ag))))) c4_ Cs) (Bl (Ev (f2 Lz aX! (fC dP_)) (f2 Kq (f2 Ao (f2 Ak dN_ S_) iE_) gj!))))))
def Iv(t:Au):List D->Option D:=Ci p! 1 (Pc t)
def Lu(t:Au):Ae->Option Fl:= (sSeq (Gi (Mt iy_ (fT (f2 Lz dM_ c5!))) c4_ Cs) (Bl (Cu rZ_ (Cu (f1 Dx (Ac dN_ Ag)) (f1 (Iv t) (Ac iE_ Ag))))))
def Cc(t:Au):List D->Option D:=Ci p! 1 (Lu t)
def Ky:Ae->Option Fl:= (Bl (Aw (Ac dN_ (Ac aX! Ag))))
def Di:List D->Option D:=Ci bh! 1 (Ky)
def Rg:Ae->Option Fl:= (Bl (Vi Di n!))
def Dm:List D->Option D:=Ci a1_ 1 (Rg)
def Ua(t:Au):WS:= (Ah (Fn t.B5 "following" h_ se_) (Fn t.B5 "preceding" h_ se_))
def Hv(t:Au):WF:=Bx aW! 1 (Ua t)
def Lx(t:Au):WS:= (Az (Jw (wl iF_) (w2 by_ u! c6!)))
def Hw(t:Au):WF:=Bx J! 2 (Lx t)
def Kb(t:Au):WS:= (Ah (Am 3 (Wz (wT (Bb t.B5 "holds" 2 (Hw t) h_ dR!)) C_ b3_)) (Ah (Am 4 (w2 Bt c6! aO_)) (Ah (Cb c6! aO_ u!) (Ah (Cb iG_ u! aO_) (Ah (Cb c6! u! a4_) (Cb iG_ a4_ u!))))))
def Cv(t:Au):WF:=Bx ru_ 3 (Kb t)
def Lw(t:Au):WS:= (Ah (Am 2 (Yh iG_ u!)) (Ah (Am 3 (Yh c6! u!)) (Ah (Cb c6! C_ aO_) (Cb iG_ aO_ C_))))
def Jd(t:Au):WF:=Bx rv! 2 (Lw t)
def Oh(t:Au):WS:= (Ah iH! (Ah (Am 2 (w2 Bt c6! b3_)) (Ah (Ic sh! si!) cv_)))
def Iq(t:Au):WF:=Bx [ak!,gV!,S!] 1 (Oh t)
def Ta(t:Au):WS:= (Ah (Fn t.B4 "parents" h_ (Pk (Ek (wl eT!) b3_ (Ek iI! b3_ Ny)))) (Ah (Fn t.B4 "rows" h_ (Pk (Ek (wl eT!) iI_ (Ek iI! iI_ Ny)))) (Ah (Fn t.B4 "texts" h_ Gy) (Ah (Fn t.B4 "numbers" h_ Gy) (Ah (Fn t.B4 "written" h_ Gy) (Fn t.B4 "hidden" h_ Gy))))))
def Ir(t:Au):WF:=Bx aW! 1 (Ta t)
def Ni(t:Au):WS:= (Az (w2 by_ u! cw!))
def Cd(t:Au):WF:=Bx J! 2 (Ni t)
def Iz(t:Au):WS:= (Az (w2 by_ u! eV_))
def Cj(t:Au):WF:=Bx J! 2 (Iz t)
def Ik(t:Au):WS:= (Ah (Ic gp! gp_) (Az (wl iF_)))
def Fm(t:Au):WF:=Bx gc_ 3 (Ik t)
def Ry(t:Au):WS:= (Ah sm_ (Ah so_ (Ah so! (Ah yO_ (Ah yP! sp_)))))
def Jr(t:Au):WF:=Bx rx! 4 (Ry t)
def Ja(t:Au):WS:= (Az (Jw mF_ (Jw sm! (Wx (Bb t.B4 "is_within" 3 (Fm t) h_ (Ab C_ am_))))))
def Fx(t:Au):WF:=Bx gd! 3 (Ja t)
def Rh(t:Au):WS:= (Ah (Av (Ip (wT (Bb t.B4 "can_move" 3 (Fx t) h_ (Ab u! dR!)))) Qj Bn) (Ah (Bo (Bb t.B5 "take_out" 2 (Jd t) (w2 Bt cw! iJ_) am_)) (Ah (Bo (Bb t.B5 "put_behind" 3 (Cv t) (w2 Bt cw! C_) mE!)) (Cb mC! u! C_))))
def Gp(t:Au):WF:=Bx cZ_ 4 (Rh t)
def Kz(t:Au):WS:= (Ah (Av (Ip (wT (Bb t.B4 "has_item" 2 (Cj t) h_ dR!))) Qj Bn) (Ah (Am 5 aO_) (Df (Ia (Td T_)) (Wf 6 7) (Ah mI_ (Ah st! (Ah su! (Am 5 gs_)))))))
def Ie(t:Au):WF:=Bx ry_ 5 (Kz t)
def Nj(t:Au):WS:= (Ah (Av (Ip (wT mF_)) Qj Bn) (Df (Ia (Tc dT_ sw!)) cx! (Ah sy! sz_)))
def Js(t:Au):WF:=Bx rz_ 4 (Nj t)
def Hq(t:Au):WS:= (Av (wT mF_) (Cb sA! C_ aO_) Bn)
def Ez(t:Au):WF:=Bx gd_ 4 (Hq t)
def Ij(t:Au):WS:= (Az iJ_)
def Fk(t:Au):WF:=Bx J! 2 (Ij t)
def Hb(t:Au):WS:= (Az (Bb t.B5 "listed" 1 (Iq t) (w2 Bt cw! u!) Af))
def Dr(t:Au):WF:=Bx J! 2 (Hb t)
def Np(t:Au):WS:= (Az (Bf 1 [0] (Bw (Bb t.B5 "listed" 1 (Iq t) sz! Af)) E_ (wT (w2 eX_ h_ (Ay t.B4 "hidden" u!))) h_))
def Do(t:Au):WF:=Bx aW_ 2 (Np t)
def Oi(t:Au):WS:= (Az (Ql "" (Bf 1 [0] sB! E_ bk! (w2 Bt (Ay t.B4 "written" u!) h_))))
def Go(t:Au):WF:=Bx aW_ 2 (Oi t)
def Hr(t:Au):WS:= (Az (w1 Wa (Ab sA! Af)))
def Fa(t:Au):WF:=Bx aW_ 2 (Hr t)
def Og:Ae->Option Fl:= (Bl (Ev (f2 Ba gu_ eY!) (f2 Ba gu_ (fC cx_))))
def At:List D->Option D:=Ci bh! 1 (Og)
def Sz:WS:= (Ah (Am 1 Gy) (Ah (Df (Ia (Ep iO!)) bM! sF!) cv_))
def Gn:WF:=Bx rB! 1 (Sz)
def Xi:WS:= (Ah (Am 1 (Ai 1 Gn aY!)) (Ah mP_ (Ah (Df (Ia eZ_) Q_ iQ!) dU_)))
def Ke:WF:=Bx rB_ 1 (Xi)
def Xk(t:Au):WS:= (Av sI_ (Bo (Bb t.B4 "put" 4 (Jr t) h_ (Ab u! (Ab b4_ (Ab gw_ Af))))) (Av sK! (Bo (Bb t.B4 "move" 4 (Gp t) h_ gx!)) (Av sL! (Bo (Bb t.B4 "move" 4 (Gp t) h_ sL_)) (Av sM! (Bo (Bb t.B4 "write" 5 (Ie t) h_ (Ab u! gx!))) (Av sM_ (Bo (Bb t.B4 "cut" 4 (Js t) h_ gx!)) (Av sN_ (Bo (Bb t.B4 "set_number" 4 (Ez t) h_ gx!)) Bn))))))
def Nt(t:Au):WF:=Bx ge! 3 (Xk t)
def Xj(t:Au):WS:= (Ah sP! (Ah (Am 2 (Ai 1 Ke aY!)) (Ah (Df (Ia (Ep iO!)) Q_ (Ah gv_ sR!)) cv_)))
def Kg(t:Au):WF:=Bx rC_ 1 (Xj t)
def Wm(t:Au):WS:= (Ah (Fn t.B3 "ours" h_ u!) (Ah (Fn t.B3 "taken" h_ Gy) (Ah (Fn t.B3 "waiting" h_ (Qk Af)) sT_)))
def Gd(t:Au):WF:=Bx gf! 2 (Wm t)
def Ug(t:Au):WS:= (Az (w1 Wo (Ab sU_ Af)))
def Fb(t:Au):WF:=Bx gf_ 2 (Ug t)
def Tz(t:Au):WS:= (Ah iH! (Ah (Df (Iw c8!) bM! (Xa 1 m0_)) sW_))
def Ey(t:Au):WF:=Bx [J_,eM_,cY_] 1 (Tz t)
def Sy(t:Au):WS:= (Ah sY_ (Az m1!))
def Cq(t:Au):WF:=Bx af_ 1 (Sy t)
def Tv(t:Au):WS:= (Az (w2 (λ_=>Kq) (wl m2!) sZ_))
def Gb(t:Au):WF:=Bx ax_ 2 (Tv t)
def Wk(t:Au):WS:= (Az (w2 iP_ (wl m2!) (w2 Mi sZ_ dY_)))
def Hg(t:Au):WF:=Bx ax_ 2 (Wk t)
def Tx(t:Au):WS:= (Ah s0_ s1_)
def Ex(t:Au):WF:=Bx b0_ 2 (Tx t)
def Py(t:Au):WS:= (Ah mP_ (Ah (Df (Bw (w2 Mi gB! u!)) Q_ (Ah gv_ (Ah s5! s7_))) dU_))
def Eo(t:Au):WF:=Bx rE_ 2 (Py t)
def Rx(t:Au):WS:= (Ah mP_ (Df (Bw (w1 Sr am_)) Q_ (Ah ta_ (Ah tc! tc_))))
def Jq(t:Au):WF:=Bx rF_ 2 (Rx t)
def Pz(t:Au):WS:= (Ah (Av (De (Ct tf!)) Fh Bn) (Bo (Ai 2 (Jq t) (Ab h_ (Ab (Ai 2 (Eo t) c8_) Af)))))
def Fs(t:Au):WF:=Bx bJ! 2 (Pz t)
def Xo(t:Au):WS:= (Ah (Bo (Vq (Jj c8! (wl m2_) (Qk Af)) u!)) sT_)
def Ki(t:Au):WF:=Bx ax_ 2 (Xo t)
def Pd(t:Au):WS:= (Ah (Am 1 a5_) (Ah th_ (Ah (Ic (De (fT (f2 Mo (f1 Bp bz_) C!))) (Ah Fh (Ah (Bo (Ai 2 (Ki t) (Ab h_ (Ab (wl bA_) Af)))) (Ah (To 1 dY_) th_)))) cv_)))
def Fe(t:Au):WF:=Bx rG_ 1 (Pd t)
def Wj(t:Au):WS:= (Ah tj! (Ah (Am 2 (Wi (Ai 2 (Gb t) c8_) (w2 by_ u! gB!))) (Ah (Av (Gu (De (Ct (fT x!))) (wT (w2 (λ_=>Kd) (w1 Wo (Ab gB! Af)) (wl (fC (.int 8)))))) (Bo (Vq gB! u!)) Bn) (Az a5_))))
def Kf(t:Au):WF:=Bx rH! 2 (Wj t)
def AL(t:Au):WS:= (Ah tl_ (Ah (Am 2 a5_) (Ah (Df gD_ Q_ (To 2 tm!)) dU_)))
def He(t:Au):WF:=Bx rH_ 2 (AL t)
def Rb(t:Au):WS:= (Ah na! tn_)
def Eb(t:Au):WF:=Bx [J_,S!,eN_] 2 (Rb t)
def Mw(t:Au):WS:= (Ah na! (Ah (Av (Ip (wT (Bb t.B4 "has_item" 2 (Cj t) C_ am_))) Fh Bn) dU_))
def Cr(t:Au):WF:=Bx [J_,a2!,eN_] 2 (Mw t)
def Lg(t:Au):WS:= (Ah tp! (Az i1!))
def Er(t:Au):WF:=Bx b1! 3 (Lg t)
def Yp(t:Au):WS:= (Az tp_)
def Hk(t:Au):WF:=Bx Y! 2 (Yp t)
def Xl(t:Au):WS:= (Az (Bb t.B4 "parent_of" 2 (Fk t) i1! am_))
def Ht(t:Au):WF:=Bx Y! 2 (Xl t)
def Vd(t:Au):WS:= (Az tr_)
def El(t:Au):WF:=Bx Y! 2 (Vd t)
def AK(t:Au):WS:= (Az (Bb t.B4 "text_of" 2 (Go t) i1! am_))
def Mc(t:Au):WF:=Bx Y! 2 (AK t)
def Xm(t:Au):WS:= (Az (w2 Bt (Bb t.B4 "numbers_of" 2 (Fa t) (Ai 3 (Er t) (Ab h_ (Ab u! dR!))) am_) C_))
def Gm(t:Au):WF:=Bx b1! 3 (Xm t)
def Vc(t:Au):WS:= (Az tu!)
def Kr(t:Au):WF:=Bx b0_ 2 (Vc t)
def Tw(t:Au):WS:= (Az (w2 Mi dY_ (w1 (λ_=>Yw) (Ab tu_ Af))))
def Jl(t:Au):WF:=Bx af_ 1 (Tw t)
def AM(t:Au):WS:= (Ah (Am 2 (Qi (Ab iW_ (Ab (w2 Mi (Bb t.B3 "have" 2 gz_ h_ (Ab iW_ Af)) dY_) Af)))) (Ah (Bo (Ai 2 (Ki t) (Ab h_ (Ab tw! Af)))) dU_))
def Tg(t:Au):WF:=Bx rJ! 2 (AM t)
def CF(t:Au):WS:= (Ah (Bo tr!) (Az (Ai 2 (Tg t) (Ab h_ (Ab (wl (Aw (Ac iR_ (Ac v_ bz_)))) Af)))))
def Wb(t:Au):WF:=Bx gg! 3 (CF t)
def AJ(t:Au):WS:= (Ah (Am 1 (Ai 1 Ke m1_)) (Ah (Am 2 ty_) (Ah (Av (De (fT (f2 Ba (f1 Bp bz_) C!))) Fh Bn) (Az (Ai 2 (Tg t) (Ab h_ (Ab (wl (Aw (Ac eY! (Ac (f2 Ak x! (Yy w!)) Ag)))) Af)))))))
def Tf(t:Au):WF:=Bx [J_,ge_,gV!] 1 (AJ t)
def Tb:Ae->Option Fl:= (sSeq (Gi (λρ=>((n!) ρ).bind Va) tA! Cs) (Bl C!))
def On:List D->Option D:=Ci c1_ 2 (Tb)
def Xp:Ae->Option Fl:= (sSeq (Cp 2 (f2 Bz (f2 Ao (f1 On (Ac n! dP!)) (f2 Eh (fC (.int 104729)) tC_)) (fC (.int 4294967291)))) (sSeq (Cp 2 (f2 Bz (f2 Eh x! (fC (.int 48271))) (fC (.int 4294967279)))) (Bl (f2 Bz (f2 Ao (f2 Eh (f2 Ck x! (fC (.int 64))) (fC (.int 69621))) x!) (fC (.int 4294967231))))))
def Bv:List D->Option D:=Ci vZ_ 2 (Xp)
def Ud:Ae->Option Fl:= (Bl (f2 Ao (f2 Ao (fC (.lst [gk!])) (Hx 1 [] eZ_ E_ (fT ne!) (Aw gG!))) (fC (.lst [iz!,ne_]))))
def Mf:List D->Option D:=Ci aI! 1 (Ud)
def Ub:Ae->Option Fl:= (sSeq (Mu 1 (Ac cg! (Ac (fC (.tup [gH!,gH!,bi!])) Ag))) (sSeq (Rv eZ_ bM! (Gi tF! tI! Cs)) (Bl v_)))
def Me:List D->Option D:=Ci v3! 1 (Ub)
def Vx:Ae->Option Fl:= (sSeq (Cp 2 (fC (.str " abcXYZ.,;!019~[]\\\"'|{}<>@#$&*()-+/=_^:?`"))) (Bl (Xt (fC i5_) (Hx 1 [0,2] (Eu ng!) E_ a3_ tJ_))))
def Ol:List D->Option D:=Ci v5! 2 (Vx)
def Vz:Ae->Option Fl:= tA!
def Du:List D->Option D:=Ci gg_ 2 (Vz)
def Qg:Ae->Option Fl:= (sSeq tK! (sSeq tK_ (sSeq tM! (sSeq tN! (sSeq tN_ (sSeq tO_ (sSeq tP! (sSeq tS_ (sSeq tV_ (sSeq tW_ (sSeq tY! (sSeq t0! (sSeq t2_ (sSeq t5_ (sSeq t6_ t7!)))))))))))))))
def Ks:List D->Option D:=Ci rM_ 4 (Qg)
def Ri:Ae->Option Fl:= (sSeq (Mu 3 Ag) (sSeq (Mu 4 ja_) (sSeq (Mu 5 ja_) (sSeq (Rv (Eu x!) gL_ (sSeq ub! (sSeq ub_ (sSeq uc! (sSeq ud! (sSeq ud_ uf_)))))) (Bl M!)))))
def Md:List D->Option D:=Ci rN_ 3 (Ri)
def Ve:WS:= (Ah iH! (Ah (Df (Ia eZ_) bM! (Ah uh_ (Ah (Ic (De (Cz ui! ui_)) ns_) uj!))) cv_))
def Fy:WF:=Bx rO_ 1 (Ve)
def Wl:WS:= (Ah (Am 1 Gy) (Ah (Df nt_ bM! (Av uk_ ul! Bn)) cv_))
def Mp:WF:=Bx rO! 1 (Wl)
def Ys:WS:= (Ah (Am 4 (Bf 1 [1] nv! E_ (De (fT um_)) h_)) (Ah (Am 5 a5_) (Ah (Ic (De (Cz un! uo!)) uo_) (Ah (Df (Ia (Eu gN_)) gL_ (Av uq_ ur! Bn)) (Cb h_ gN! (wl (f2 Ao us_ uu!)))))))
def Gq:WF:=Bx rP! 4 (Ys)
def Yr:WS:= (Ah (Ic (De iJ!) (Ah uv! (Ah uw_ (Am 1 gC_)))) (Az eX!))
def Ms:WF:=Bx rQ! 3 (Yr)
def Yq:WS:= (Av (Gu (wT (w2 by_ u! bl_)) (Uw (wT (w2 by_ C_ bl_)) (wT (w2 by_ C_ uy_)))) (Av uz_ uA_ Bn) Bn)
def Jm:WF:=Bx c2_ 4 (Yq)
def Xq:WS:= (Ah nA! (Ah nA_ (Av sI_ (Ah uC_ (Ah nB! (Ah nD! nE!))) (Av sK! nF! (Av sL! nF_ (Av (Gu sN_ (wT gO!)) uF_ (Av (Gu sM! (wT gO!)) (Ah jl_ (Ah (Am 6 a5_) (Ah (Df nG_ (Cg 7) uH_) (Ah uJ_ uL_)))) (Av (Gu sM_ (wT gO!)) (Ah uN_ (Ah jl_ uR!)) Bn))))))))
def Wc:WF:=Bx rQ_ 2 (Xq)
def Vy:WS:= (Ah uT! (Ah uT_ (Ah (Df nt_ Q_ (Av (Gu uU! uV_) uW! Bn)) cv_)))
def Mr:WF:=Bx rR_ 1 (Vy)
def Ue:WS:= (Az (Bf 1 [1] nv! E_ (De (fT uY!)) (wl aX!)))
def Jn:WF:=Bx b3! 2 (Ue)
def Rz:WS:= (Az (Ql "" (Bf 1 [] uZ! E_ (De (fT dN_)) (wl dN!))))
def Hl:WF:=Bx b3! 2 (Rz)
def Uc(t:Au):WS:= (Ah u0! (Ah (Df u1! Q_ (Av u2_ bC! Bn)) (Ah (Df (Iw nL!) Q_ (Ah u3! (Ah u5! u6_))) u7!)))
def Om(t:Au):WF:=Bx rS! 2 (Uc t)
def Uf(t:Au):WS:= (Ah u8! (Ah (Df u8_ cx! (Av u9_ bC! Bn)) (Ah (Df (Iw nM_) cx! (Ah vb! vc_)) (Az eX!))))
def Je(t:Au):WF:=Bx rS_ 3 (Uf t)
def Xn(t:Au):WS:= (Ah ve! (Ah (Am 1 nQ_) (Ah vh! (Ah vi_ (Ah (Am 4 nR_) (Ah (Am 5 jt!) (Ah vk_ (Ah vl_ (Ah vm_ (Ah vn_ (Ah vp_ (Ah vq_ (Ah nT_ (Ah (Am 9 jt!) (Ah vr! (Ah vs! (Ah vs_ (Ah vt! vu!))))))))))))))))))
def Zt(t:Au):WF:=Bx rU! 1 (Xn t)
structure Txt(P:yp!)(w:xV!)(K:yS!)(mg:z!)(t:Au):Prop where
 C8:Ff K mg "is_whole" Pm p!
 C9:Ff K mg "is_below" Po gb_
 D1:Ff K mg "is_from_one" Ln p!
 D2:Ff K mg "is_name" Qr p!
 D3:Ff K mg "is_sign_name" Ku p!
 D4:Ff K mg "is_item" Qs p!
 D5:Ff K mg "is_sibling" Nd p!
 D6:Ff K mg "is_behind" Oc p!
 D7:Ff K mg "is_sign" Qp dK!
 D8:Ff K mg "is_text" No p!
 D9:Ff K mg "is_place" Pn p!
 E1:Ff K mg "are_parts" Kl gc!
 E2:Ff K mg "is_deed" Qt p!
 E3:Ff K mg "is_operation" Kv p!
 E4:Ff K mg "time_and_hand" Jx bh!
 E5:Ff K mg "in_order" Pp a1_
 E6:Ut K mg "Row" t.B5 "Row.__init__" Sj aW!
 E7:Da K t.B5 "holds" "Row.holds" Oe J!
 E8:Da K t.B5 "put_behind" "Row.put_behind" Jk l7!
 E9:Da K t.B5 "take_out" "Row.take_out" Kw J!
 F7:Da K t.B5 "listed" "Row.listed" Nf aW!
 F8:Ut K mg "Outline" t.B4 "Outline.__init__" Ng aW!
 F9:Da K t.B4 "has" "Outline.has" Lq J!
 G6:Da K t.B4 "has_item" "Outline.has_item" Ih J!
 G7:Da K t.B4 "is_within" "Outline.is_within" Ho gc_
 G8:Da K t.B4 "put" "Outline.put" Lp cZ_
 G9:Da K t.B4 "can_move" "Outline.can_move" Ii gd!
 H9:Da K t.B4 "move" "Outline.move" Kx cZ_
 J0:Da K t.B4 "write" "Outline.write" Jz l8!
 J1:Da K t.B4 "cut" "Outline.cut" Lr l8_
 J2:Da K t.B4 "set_number" "Outline.set_number" Gz gd_
 J3:Da K t.B4 "parent_of" "Outline.parent_of" Hn J!
 J4:Da K t.B4 "children_of" "Outline.children_of" Gh J!
 J5:Da K t.B4 "signs_of" "Outline.signs_of" Fi aW_
 J6:Da K t.B4 "text_of" "Outline.text_of" Fu aW_
 J7:Da K t.B4 "numbers_of" "Outline.numbers_of" Ha aW_
 J8:Ff K mg "is_undo_or_redo" Ix bh!
 J9:Ff K mg "last_words" Nc a1_
 K0:Ff K mg "undone" Se a1_
 K4:Ff K mg "play" Vt ge!
 K6:Ff K mg "played" Sf a1_
 K7:Ut K mg "Hand" t.B3 "Hand.__init__" Ra gf!
 K8:Da K t.B3 "have" "Hand.have" Of gf_
 K9:Ff K mg "all_taken" Od af_
 L0:Ff K mg "outline_of" Nb af_
 L5:Ff K mg "was_taken" Oa ax_
 L6:Ff K mg "is_next" Qq ax_
 L7:Ff K mg "last_time" Ob b0_
 L8:Ff K mg "not_yet_taken" Jy bJ!
 L9:Ff K mg "check_times" Lo mc_
 M7:Ff K mg "check_message" Hd bJ!
 M9:Ff K mg "accept" Si ax_
 N0:Ff K mg "accept_waiting" Es af_
 N3:Ff K mg "receive" Qn ax_
 N4:Ff K mg "take" Vs bJ!
 N5:Ff K mg "outline_with" Kt [J_,S!]
 N6:Ff K mg "outline_with_item" Hm Y!
 N7:Ff K mg "outline_with_number" Gg b1!
 N8:Ff K mg "there" Tp Y!
 N9:Ff K mg "parent" Sg Y!
 O0:Ff K mg "children" Pq Y!
 O3:Ff K mg "text" Vr Y!
 O4:Ff K mg "number" Sh b1!
 O5:Ff K mg "undoable" Lm b0_
 O6:Ff K mg "next_time" Kk af_
 O7:Ff K mg "make" Vu me!
 O8:Ff K mg "put" Xc gg!
 O9:Ff K mg "undo" Sq af_
 P0:Ff K mg "_law_cell" Tt c1_
 P1:Ff K mg "_law_mix" Vv c1_
 P3:Ff K mg "_law_items" Pa aI!
 P4:Ff K mg "_law_signs" Sl aI!
 P5:Ff K mg "_law_text" Qv oh!
 P6:Ff K mg "_law_pick" Tr gg_
 P7:Ff K mg "_law_deed" Qz mg_
 P8:Ff K mg "_law_world" Sk mh_
 P9:Ff K mg "_law_ordered" Pr aI!
 Q0:Ff K mg "_law_undone" Qu aI!
 Q3:Ff K mg "_law_hang" Qx c2_
 Q4:Ff K mg "_law_lies" Qw mi_
 Q5:Ff K mg "_law_move" Ts c2_
 Q6:Ff K mg "_law_do" Qy mj_
 Q7:Ff K mg "_law_play" Tq aI!
 Q8:Ff K mg "_law_children" Km b3!
 Q9:Ff K mg "_law_shown_text" Iy b3!
 R0:Ff K mg "_law_shows" Ml os!
 R4:Ff K mg "_law_alike" Mm ml!
 R6:Ff K mg "law" Qo [bJ_]
 R7:mg "abs"=none
 R8:mg "all"=none
 R9:mg "bool"=none
 S0:mg "enumerate"=none
 S7:mg "int"=none
 S8:mg "isinstance"=none
 S9:mg "len"=none
 T0:mg "list"=none
 T1:mg "max"=none
 T2:mg "ord"=none
 T3:mg "range"=none
 T4:mg "sorted"=none
 T5:mg "str"=none
 T6:mg "tuple"=none
 T7:mg "zip"=none
 T8:∃tk,mg "HANDS"=some (.int 16 tk)
 T9:∃tk,mg "SIGNS"=some (.int 16 tk)
 U0:∃tk,mg "PLACES"=some (.int 4 tk)
 U1:∃tk,mg "LEFT_OUT"=some (.int 37 tk)
 U2:∃tk,mg "MOST_WAITING"=some (.int 8 tk)
 U3:mg "is_item"=some (.ref t.A0)
 U4:mg "is_sibling"=some (.ref t.A5)
 U5:mg "is_behind"=some (.ref t.A6)
 U6:mg "is_text"=some (.ref t.A7)
 U7:mg "is_sign_name"=some (.ref t.A8)
 U8:mg "is_from_one"=some (.ref t.A9)
 U9:mg "is_place"=some (.ref t.B0)
 V0:mg "is_whole"=some (.ref t.B1)
 V2:mg "is_name"=some (.ref t.B2)
 V3:Uu K t.B3
 V4:Uu K t.B4
 V5:Uu K t.B5
 V6:Ef K t.B5 "following"
 V7:Ef K t.B5 "preceding"
 V8:Ef K t.B4 "parents"
 V9:Ef K t.B4 "rows"
 W3:Ef K t.B4 "texts"
 W4:Ef K t.B4 "numbers"
 W5:Ef K t.B4 "written"
 W6:Ef K t.B4 "hidden"
 W7:Ef K t.B3 "ours"
 W8:Ef K t.B3 "taken"
 W9:Ef K t.B3 "waiting"
 X0:Ef K t.B3 "outline"
 X1:∀X:Cx,X.prog=P->X.w=w->X.K=K->X.mg=mg->Us X "PARTS" gn!
def cV:∀(l:i!) (d v:D),kget fe_ d=some v
 |[],d,v=>by simp[As,kget]
 |(k,x)::r,d,v=>by
  unfold As;by_cases h:k=d
  .rw[HY h];simp[kget,h]
  .rw[HP h];simp[kget,h,cV r d v]
def cW(h:d≠e):∀(l:i!) (v:D),kget fe_ e=kget l e
 |[],v=>by simp[As,kget,h]
 |(k,x)::r,v=>by
  unfold As;show"!h"
  .rw[aP!];subst hk;simp[kget,h]
  .rw[aF_];simp only[kget];rw[cW h r v]
def yG(h:d≠e):∀(l:i!),kget gW_ e=kget l e
 |[]=>rfl
 |(k,x)::r=>by
  unfold Gv;show"!h"
  .rw[aP!];subst hk;simp[kget,h]
  .rw[aF_];simp only[kget];rw[yG h r]
def a4s:∀{l:i!} {d:D},kget l d≠none↔d∈l.map c_
 |[],d=>by simp[kget]
 |(k,x)::r,d=>by
  unfold kget;show"!h"
  .subst hk;simp
  .rw[aF_,a4s];simp[HR hk]
def yF:∀{l:i!} {d:D},(ez_).Nodup->kget gW_ d=none
 |[],d,_=>rfl
 |(k,x)::r,d,h=>by
  rw[HV,IJ]at h;unfold Gv;show"!h"
  .rw[aP!];subst hk;cases e:kget r k with
   |none=>rfl
   |some v=>exact absurd (a4s.mp pP!) h.1
  .rw[aF_];unfold kget;rw[aF_];exact yF h.2
def a4a:∀{l:i!} {d v:D} {e:D},e∈(fe_).map c_↔e=d\/e∈l.map c_
 |[],d,v,e=>by simp[As]
 |(k,x)::r,d,v,e=>by
  unfold As;show"!h"
  .rw[aP!];subst hk;simp
  .rw[aF_];simp only[HV,HN];rw[a4a];constructor<;>(rintro(h|h|h)<;>simp[h])
def kW:∀{l:i!} {d v:D},(ez_).Nodup->((fe_).map c_).Nodup
 |[],d,v,_=>by simp[As]
 |(k,x)::r,d,v,h=>by
  rw[HV,IJ]at h;unfold As;show"!h"
  .rw[aP!];simp only[HV,IJ];exact h
  .rw[aF_];simp only[HV,IJ];refine⟨cl_,kW h.2⟩;obtain z|z:=a4a.mp z
   .exact hk z
   .exact h.1 z
def c1p:∀{l:i!} {d e:D},e∈(gW_).map c_->e∈l.map c_
 |[],d,e,h=>by simp[Gv]at h
 |(k,x)::r,d,e,h=>by
  unfold Gv at h;show"!h"
  .rw[aP!]at h;simp only[HV,HN];exact .inr h
  .rw[aF_]at h;simp only[HV,HN]at h ⊢;obtain h|h:=h
   .exact .inl h
   .exact .inr (c1p h)
def c1q:∀{l:i!} {d:D},(ez_).Nodup->((gW_).map c_).Nodup
 |[],d,_=>by simp[Gv]
 |(k,x)::r,d,h=>by
  rw[HV,IJ]at h;unfold Gv;show"!h"
  .rw[aP!];exact h.2
  .rw[aF_];simp only[HV,IJ];exact⟨λz=>h.1 (c1p z),c1q h.2⟩
def xY:∀{l:i!} {d v:D},kget l d≠none->(fe_).length=av!
 |[],d,v,h=>by simp[kget]at h
 |(k,x)::r,d,v,h=>by
  unfold As;show"!h"
  .rw[aP!];rfl
  .rw[aF_];unfold kget at h;rw[aF_]at h;simp[xY h]
def yK:∀{l:i!} {d:D},kget l d≠none->(gW_).length+1=av!
 |[],d,h=>by simp[kget]at h
 |(k,x)::r,d,h=>by
  unfold Gv;show"!h"
  .rw[aP!];rfl
  .rw[aF_];unfold kget at h;rw[aF_]at h;simp[yK h]
def Kc{α:Type}:List α->List (α×α)
 |a::b::r=>ab!::Kc (b::r)
 |_=>[]
def fF{α:Type}:∀(u:P_) (a b:α) (v:P_),Kc (u++a::b::v)=Kc (u++[a])++ab!::Kc (b::v)
 |[],a,b,v=>rfl
 |[x],a,b,v=>rfl
 |x::y::u,a,b,v=>by
  have:=fF (y::u) a b v;simp only[LY]at this ⊢;simp only[Kc,LY];rw[this]
def b3s{α:Type}:∀(a:α) (l:P_),(Kc (a::l)).map c_=(a::l).dropLast
 |a,[]=>rfl
 |a,b::r=>by simp only[Kc,HV,b3s b r,List.dropLast]
def b3r{α:Type}:∀(a:α) (l:P_),(Kc (a::l)).map A_=l
 |a,[]=>rfl
 |a,b::r=>by simp only[Kc,HV,b3r b r]
def Ju(xs:c!):List D:=.non::(xs++[.non])
def a5m(xs:c!):(ff_).map c_=.non::xs:=by unfold Ju;rw[b3s,show(D.non::(xs++[.non]))=(.non::xs)++[.non]from rfl,List.dropLast_concat]
def rW(xs:c!):(ff_).map A_=xs++[.non]:=b3r _ _
structure Qc(kf kp:i!)(xs:c!):Prop where
 f:∀a b,kget kf a=some b↔ab!∈Kc aQ_
 p:∀a b,kget kp b=some a↔ab!∈Kc aQ_
 nd:xs.Nodup
 no:D.non∉xs
 kf_nd:(kf.map c_).Nodup
 kp_nd:(kp.map c_).Nodup
 fl:kf.length=m_+1
 pl:kp.length=m_+1
def kB{α β:Type}:∀{l:List (α×β)} {a:α} {b c:β},(ez_).Nodup->ab!∈l->(a,c)∈l->b=c
 |[],_,_,_,_,h,_=>by cases h
 |(x,y)::r,a,b,c,nd,Y,L=>by
  rw[HV,IJ]at nd;obtain z|z:=HN.mp Y<;>obtain w|w:=HN.mp L
  .cases z;cases w;rfl
  .cases z;exact absurd vy! nd.1
  .cases w;exact absurd vy_ nd.1
  .exact kB nd.2 z w
def Qc.hasF(h:jx!)(a:D):kget kf a≠none↔a=.non\/a∈xs:=by
 have e:=a5m xs;show"!L"
 .intro z;cases q:kget kf a with
  |none=>exact absurd q z
  |some b=>
   have:=IB (f:=c_) ((h.f a b).mp q);rw[e]at this;simpa using this
 .intro z;have:a∈(ff_).map c_:=by rw[e];simpa using z
  obtain⟨⟨x,b⟩,hm,rfl⟩:=IH.mp this;rw[(h.f x b).mpr hm];simp
def Qc.hasP(h:jx!)(b:D):kget kp b≠none↔b=.non\/b∈xs:=by
 have e:=rW xs;show"!L"
 .intro z;cases q:kget kp b with
  |none=>exact absurd q z
  |some a=>
   have:=IB (f:=A_) ((h.p a b).mp q);rw[e]at this;obtain w|w:=HX.mp this
   .exact .inr w
   .exact .inl (by simpa using w)
 .intro z;have:b∈(ff_).map A_:=by rw[e];obtain rfl|z:=z<;>simp[*]
  obtain⟨⟨a,y⟩,hm,rfl⟩:=IH.mp this;rw[(h.p a y).mpr hm];simp
def b8s:Qc jx_ jx_ []:=by
 refine⟨fg!,fg!,H!,H!,H!,H!,rfl,rfl⟩<;>
 .simp only[Ju,Kc,kget,KP,HN,JF,KY,KZ];show"!L"
  .intro z;split at z
   .rename_i q;cases z;exact⟨by first|exact q.symm|rfl,by first|rfl|exact q.symm⟩
   .cases z
  .rintro⟨rfl,rfl⟩;simp
def Xs(n a:D):List D->List D
 |[]=>[]
 |x::r=>open Classical in if x=a then x::n::r else x::Xs n a r
def Qa(n a:D)(xs:c!):List D:=open Classical in if a∈xs then Xs n a xs else n::xs
def lA:∀{u v:c!},a∉u->Xs n a (u++a::v)=u++a::n::v
 |[],v,_=>by simp[Xs]
 |x::u,v,h=>by
  rw[HN,ON]at h;simp only[LY,Xs];rw[k8_,lA h.2]
def Qc.ins(h:jx!)(e:Ju xs=u++a0::b0::v)(e':Ju gg=u++a0::n::b0::v)(hn:n∉xs)(h0:n≠.non):
  Qc (As fg_ n b0) (As fh! b0 n) gg:=by
 have P:=fF u a0 b0 v;have P':Kc (Ju gg)=Kc jz!++(a0,n)::(n,b0)::Kc jz_:=by rw[e',fF];rfl
 rw[<-e]at P;have F:=a5m xs;have S:=rW xs;have z7:(D.non::xs).Nodup:=IJ.mpr vz_;have xc:(xs++bP_).Nodup:=by
  rw[IY];exact vA!
 have nf:∀a b,ab!∈Kc aQ_->a≠n:=λa b hm z=>by
  have:=IB (f:=c_) hm;rw[F]at this;obtain w|w:=HN.mp this
  .exact h0 jB!
  .exact hn jB!
 have ns:∀a b,ab!∈Kc aQ_->b≠n:=λa b hm z=>by
  have:=IB (f:=A_) hm;rw[S]at this;obtain w|w:=HX.mp this
  .exact hn jB!
  .simp at w;exact h0 jB!
 have m0:(a0,b0)∈Kc aQ_:=by rw[P];simp
 have xf:a0≠n:=nf _ _ m0;have qr:b0≠n:=ns _ _ m0;have dF:∀a b,ab!∈Kc jz!\/ab!∈Kc jz_->ab!∈Kc aQ_/\a≠a0/\b≠b0:=λa b hm=>by
  have q:ab!∈Kc aQ_:=by rw[P];obtain z|z:=hm<;>simp[z]
  have gi:=F▸z7;have bf:=S▸xc;rw[P]at gi bf;simp only[IU,HV]at gi bf;rw[IY,IJ]at gi bf;refine⟨q,cl_,cl_⟩
  .obtain w|w:=hm
   .exact gi.2.2 _ vy! _ d! z
   .exact gi.2.1.1 (z▸IB (f:=c_) w)
  .obtain w|w:=hm
   .exact bf.2.2 _ (IB (f:=A_) w) _ d! z
   .have:=IB (f:=A_) w;rw[show(ab!).2=b0 from z]at this;exact bf.2.1.1 this
 have len:gg.length=m_+1:=by
  show"!O"
 have mem':∀y,y∈Ju gg↔y=n\/y∈Ju xs:=λy=>by rw[e,e'];simp only[HX,HN];constructor<;>(intro z;obtain z|z|z|z|z:=z<;>simp[z])
 have tl:gg++bP_=n0_:=rfl;have f9:(n0_).Nodup:=by
  rw[<-rW gg,P'];have bf:=S▸xc;rw[P]at bf;simp only[IU,HV]at bf ⊢;rw[IY,IJ]at bf;rw[IY,IJ,IJ];refine⟨bf.1,⟨cl_,bf.2.1.1,bf.2.1.2⟩,vB!⟩
  .obtain z|z:=HN.mp z
   .exact qr z.symm
   .obtain⟨⟨c,d⟩,hm,rfl⟩:=IH.mp z;exact ns c d vB_ rfl
  .obtain rfl|hb:=HN.mp hb
   .obtain⟨⟨c,d⟩,hm,rfl⟩:=IH.mp ha;exact ns c d vB_
   .exact vC!
 rw[IY]at f9;refine⟨fg!,fg!,f9.1,vC_,kW (kW h.kf_nd),kW (kW h.kp_nd),?_,?_⟩
 .rw[P'];show"!Q";by_cases q1:n=a
  .show"#'"
   .show"!f";simp
   .rintro(z|⟨z,_⟩|⟨_,z⟩|z)
    .exact absurd rfl (nf _ _ (dh!).1)
    .exact absurd z.symm xf
    .rw[z]
    .exact absurd rfl (nf _ _ (dh_).1)
  .rw[cW q1];by_cases q2:a0=a
   .subst q2;rw[cV];show"!L"
    .show"!f";simp
    .rintro(z|⟨_,z⟩|⟨z,_⟩|z)
     .exact absurd rfl (dh!).2.1
     .rw[z]
     .exact b9_
     .exact absurd rfl (dh_).2.1
   .rw[cW q2,h.f,P];show"!Q";show"!L"
    .show"#C"
     .exact cC!
     .exact gY_
     .exact jC!
    .rintro(z|⟨z,_⟩|⟨z,_⟩|z)
     .exact cC!
     .exact gY_
     .exact b9_
     .exact jC_
 .rw[P'];show"!Q";by_cases q1:b0=b
  .show"#'"
   .show"!f";simp
   .rintro(z|⟨_,z⟩|⟨z,_⟩|z)
    .exact absurd rfl (dh!).2.2
    .exact absurd z qr
    .rw[z]
    .exact absurd rfl (dh_).2.2
  .rw[cW q1];by_cases q2:n=b
   .subst q2;rw[cV];show"!L"
    .show"!f";simp
    .rintro(z|⟨z,_⟩|⟨_,z⟩|z)
     .exact absurd rfl (ns _ _ (dh!).1)
     .rw[z]
     .exact absurd z.symm qr
     .exact absurd rfl (ns _ _ (dh_).1)
   .rw[cW q2,h.p,P];show"!Q";show"!L"
    .show"#D"
     .exact cC!
     .exact b9_
     .exact jC!
    .rintro(z|⟨_,z⟩|⟨_,z⟩|z)
     .exact cC!
     .exact gY_
     .exact b9_
     .exact jC_
 .have f0:kget kf a0≠none:=by rw[(n1!).mpr m0];simp
  have f1:n∉(fg_).map c_:=λz=>by
   obtain z|z:=a4a.mp z
   .exact xf z.symm
   .obtain w|w:=(h.hasF n).mp (a4s.mpr z)
    .exact h0 w
    .exact hn w
  rw[iX f1,IG,xY f0,h.fl,len];rfl
 .have f1:n∉kp.map c_:=λz=>by
   obtain w|w:=(h.hasP n).mp (a4s.mpr z)
   .exact h0 w
   .exact hn w
  have f0:kget fh! b0≠none:=by rw[cW (HR qr),(n1_).mpr m0];simp
  rw[xY f0,iX f1,IG,h.pl,len];rfl
def Qc.out(h:jx!)(e:Ju xs=u++a0::n::b0::v)(e':Ju gg=u++a0::b0::v)(h0:n≠.non):
  Qc zv_ zw_ gg:=by
 have P':=fF u a0 b0 v;have P:Kc aQ_=Kc jz!++(a0,n)::(n,b0)::Kc jz_:=by rw[e,fF];rfl
 rw[<-e']at P';have F:=a5m xs;have S:=rW xs;have z7:((ff_).map c_).Nodup:=by rw[F];exact IJ.mpr vz_
 have xc:((ff_).map A_).Nodup:=by
  rw[S,IY];exact vA!
 have gi:=z7;have bf:=xc;rw[P]at gi bf;simp only[IU,HV]at gi bf;rw[IY,IJ,IJ]at gi bf;have xf:a0≠n:=λz=>gi.2.1.1 ga_;have qr:b0≠n:=λz=>bf.2.1.1 ga_;have m1:(a0,n)∈Kc aQ_:=by rw[P];simp
 have m2:(n,b0)∈Kc aQ_:=by rw[P];simp
 have len:m_=gg.length+1:=by
  show"!O"
 have dF:∀a b,ab!∈Kc jz!\/ab!∈Kc jz_->ab!∈Kc aQ_/\(a≠a0/\a≠n)/\(b≠b0/\b≠n):=λa b hm=>by
  have q:ab!∈Kc aQ_:=by rw[P];obtain z|z:=hm<;>simp[z]
  have g1:a≠a0/\a≠n:=by
   obtain w|w:=hm
   .have:=IB (f:=c_) w;exact⟨vG!,vG!⟩
   .have:=IB (f:=c_) w;exact⟨λz=>gi.2.1.1 (HL _ jE_),λz=>gi.2.1.2.1 jE_⟩
  have g2:b≠b0/\b≠n:=by
   obtain w|w:=hm
   .have:=IB (f:=A_) w;exact⟨vG_,vG_⟩
   .have:=IB (f:=A_) w;exact⟨λz=>bf.2.1.2.1 jE_,λz=>bf.2.1.1 (HL _ jE_)⟩
  exact⟨q,g1,g2⟩
 have f9:(n0_).Nodup:=by
  rw[<-rW gg,P'];simp only[IU,HV];rw[IY,IJ];exact⟨bf.1,bf.2.1.2,λa ha b hb=>bf.2.2 a ha b (HL _ hb)⟩
 rw[IY]at f9;have hf0:kget kf a0≠none:=by rw[(n1!).mpr m1];simp
 have ff:kget kp b0≠none:=by rw[(n1_).mpr m2];simp
 refine⟨fg!,fg!,f9.1,vC_,kW (c1q h.kf_nd),kW (c1q h.kp_nd),?_,?_⟩
 .rw[P'];show"!Q";by_cases q1:a0=a
  .show"#'"
   .show"!f";simp
   .show"#D"
    .exact absurd rfl (dh!).2.1.1
    .rw[z]
    .exact absurd rfl (dh_).2.1.1
  .rw[cW q1];by_cases q2:n=a
   .subst q2;rw[yF h.kf_nd];show"!L"
    .show"!f"
    .show"#C"
     .exact absurd rfl (dh!).2.1.2
     .exact b9_
     .exact absurd rfl (dh_).2.1.2
   .rw[yG q2,h.f,P];show"!Q";show"!L"
    .rintro(z|⟨z,_⟩|⟨z,_⟩|z)
     .exact cC!
     .exact b9_
     .exact gY_
     .exact jC_
    .show"#C"
     .exact cC!
     .exact b9_
     .exact jC!
 .rw[P'];show"!Q";by_cases q1:b0=b
  .show"#'"
   .show"!f";simp
   .show"#C"
    .exact absurd rfl (dh!).2.2.1
    .rw[z]
    .exact absurd rfl (dh_).2.2.1
  .rw[cW q1];by_cases q2:n=b
   .subst q2;rw[yF h.kp_nd];show"!L"
    .show"!f"
    .show"#D"
     .exact absurd rfl (dh!).2.2.2
     .exact b9_
     .exact absurd rfl (dh_).2.2.2
   .rw[yG q2,h.p,P];show"!Q";show"!L"
    .rintro(z|⟨_,z⟩|⟨_,z⟩|z)
     .exact cC!
     .exact gY_
     .exact b9_
     .exact jC_
    .show"#D"
     .exact cC!
     .exact b9_
     .exact jC!
 .have:=yK (l:=kf) (d:=n) (by rw[(n1!).mpr m2];simp);rw[xY (by rw[yG (HR xf)];exact hf0)];have:=h.fl;omega
 .have:=yK (l:=kp) (d:=n) (by rw[(n1_).mpr m1];simp);rw[xY (by rw[yG (HR qr)];exact ff)];have:=h.pl;omega
def d3o:(Str.ofString "following"==Str.ofString "preceding")=false:=by decide+kernel
def d2m:(Str.ofString "preceding"==Str.ofString "following")=false:=by decide+kernel
def a1k:(Str.ofString "following"==Str.ofString "following")=true:=by decide+kernel
def lkP:List.lookup (Str.ofString "preceding") [(Str.ofString "following",a),(Str.ofString "preceding",b)]=some b:=by simp[JR,d2m]
structure Ej(t:Au)(M:Mh)(r f p:x7!)(xs:c!):Prop where
 ob:M r=some (.obj t.B5 [("following",.fn f),("preceding",.fn p)])
 dc:∃kf ef kp ep,M f=some (.dct kf ef)/\M p=some (.dct kp ep)/\Qc kf kp xs
 ne:f≠p
def a1g:Cn d=true↔d=.non:=by cases d<;>simp[Cn]
def kA(hd:d≠.non):Cn d=false:=by cases q:Cn d with|false=>rfl|true=>exact absurd (a1g.mp q) hd
def a8p{t:Au}{M:Mh}{R:s_}(h:ea!)(hk:bs!)(hR:R (.bl (open Classical in decide (d∈xs))) M):Hw t [.fn r,d] M R:=by
 obtain⟨kf,ef,kp,ep,hf,hp,K⟩:=h.dc;refine j_;by_cases hd:d=.non
 .subst hd;have:(D.non∈xs)=False:=by simp[K.no]
  simp only[this,QL]at hR;simpa[Lx,Az,Jw,wT,wl,f2,Aa,fC,Ar,Cn]using hR
 .have e3:(kget kf d).isSome=(open Classical in decide (d∈xs)):=by
   have:=K.hasF d;cases q:kget kf d with
   |none=>rw[q]at this;simp[hd]at this;simp[this]
   |some v=>rw[q]at this;simp[hd]at this;simp[this]
  rw[<-e3]at hR;simpa[Lx,Az,Jw,wT,wl,f2,Aa,fC,Ar,kA hd,w2,Ay,Gw,h.ob,Dz,Ib,hf,hk,a1k]using hR
def nM{α:Type}{a:α}:∀{l:P_},a∈l->∃u v,l=u++a::v/\a∉u
 |x::r,h=>open Classical in by
  by_cases e:a=x
  .exact⟨[],r,by rw[e];rfl,H!⟩
  .obtain⟨u,v,rfl,hu⟩:=nM ((HN.mp h).resolve_left e);exact⟨x::u,v,rfl,by simp[e,hu]⟩
def b9d(h0:D.non∉xs):∃u b0 v,Ju xs=u++(open Classical in if o∈xs then o else .non)::b0::v/\Ju (Qa n o xs)=u++(open Classical in if o∈xs then o else .non)::n::b0::v:=by
 by_cases h:o∈xs
 .obtain⟨u,v,rfl,hu⟩:=nM h;obtain⟨b0,v',e⟩:∃b0 v',v++[D.non]=b0::v':=by cases v with|nil=>exact bF_|cons a r=>exact bF_
  refine⟨.non::u,b0,v',?_,?_⟩
  .rw[HY h];simp[Ju,e]
  .unfold Qa;rw[HY h,HY h,lA hu];simp[Ju,e]
 .obtain⟨b0,v',e⟩:∃b0 v',xs++[D.non]=b0::v':=by cases xs with|nil=>exact bF_|cons a r=>exact bF_
  refine⟨[],b0,v',?_,?_⟩
  .rw[HP h];simp[Ju,e]
  .unfold Qa;rw[HP h,HP h];simp[Ju,e]
def jL{t:Au}{M:Mh}{xs:c!}{R:s_}(h:ea!)(hn:Db n=some kn)(ho:Db o=some ko)(n0:n≠.non)(nx:n∉xs)(hl:m_<5000)(gj:n6_)
  (hR:∀M',Ej t M' r f p (Qa n o xs)->vM!->R .non M'):Cv t [.fn r,n,o] M R:=by
 obtain⟨kf,ef,kp,ep,hf,hp,K⟩:=h.dc;have ow:r≠f:=λz=>by have:=h.ob;rw[z,hf]at this;cases this
 have jy:r≠p:=λz=>by have:=h.ob;rw[z,hp]at this;cases this
 obtain⟨u,b0,v,c1,c2⟩:=b9d (n:=n) (o:=o) K.no;generalize ea:(open Classical in if o∈xs then o else D.non)=a0 at c1 c2;have m0:(a0,b0)∈Kc aQ_:=by rw[c1,fF];simp
 have kz:kget kf a0=some b0:=(g1!).mpr m0;have K':=K.ins c1 c2 nx n0;have ka:∃k,Db a0=some k:=by
  have:=(K.hasF a0).mp vO!;obtain rfl|z:=this
  .exact L!
  .exact gj _ z
 have kb:∃k,Db b0=some k:=by
  have:=(K.hasP b0).mp (by rw[(n7!).mpr m0];simp);obtain rfl|z:=this
  .exact L!
  .exact gj _ z
 obtain⟨ka,z8⟩:=ka;obtain⟨kb,z9⟩:=kb;have l1:kf.length<big:=by have:=K.fl;unfold big;omega
 have l2:kp.length<big:=by have:=K.pl;unfold big;omega
 have l3:(fg_).length<big:=LD ea_ (by have:=K.fl;unfold big;omega);have l4:(fh!).length<big:=LD ea_ (by have:=K.pl;unfold big;omega);refine j_;simp only[Kb,Ah,Am,Wz,wT,Bb,wl,Ab,Af,Aa];simp[Dh,h.ob,d3o,a1k];refine⟨⟨gb!,gb!⟩,?_⟩;refine a8p h ho ?_;have key:∀(b:Bool),b=(open Classical in decide (o∈xs))->((b=true/\o=a0)\/(b=false/\D.non=a0)):=λb hb=>by
  subst hb;rw[<-ea];by_cases z:o∈xs<;>simp[z]
 generalize hb:(open Classical in decide (o∈xs))=b;have fin:R .non (Bg (Bg (Bg (Bg M f (.dct fg_ (Gs kf a0 ef))) p (.dct fh! (Gs kp n ep))) f (.dct (As fg_ n b0) (Gs fg_ n (Gs kf a0 ef)))) p (.dct (As fh! b0 n) (Gs fh! b0 (Gs kp n ep)))):=by
  refine hR _ vQ! λb ut uv=>?_
  .rw[jG_,jH!,jG_,jH!];exact h.ob
  .rw[jH_,jI!,jH_,jI!]
 obtain⟨rfl,rfl⟩|⟨rfl,rfl⟩:=key b hb.symm<;>
 simpa[Ah,Am,w2,wl,Ay,Cb,Dz,Gw,Aa,fC,f2,h.ob,a1k,lkP,Bt,hf,hp,z8,z9,hn,kz,Lh,l1,l2,l3,l4,mup_ne,mup_same,ow,jy,h.ne,HR h.ne]using fin
def a6b{t:Au}{M:Mh}{xs:c!}{R:s_}(h:ea!)(J:xs=u++n::v)(hn:Db n=some kn)(hl:m_<5000)(gj:n6_)
  (hR:∀M',Ej t M' r f p bn_->vM!->R .non M'):Jd t [.fn r,n] M R:=by
 obtain⟨kf,ef,kp,ep,hf,hp,K⟩:=h.dc;have ow:r≠f:=λz=>by have:=h.ob;rw[z,hf]at this;cases this
 have jy:r≠p:=λz=>by have:=h.ob;rw[z,hp]at this;cases this
 have n0:n≠.non:=λz=>K.no (by rw[J,<-z];simp);obtain⟨b0,v',ev⟩:∃b0 v',v++[D.non]=b0::v':=by cases v with|nil=>exact bF_|cons a r=>exact bF_
 obtain⟨u',a0,eu⟩:∃u' a0,D.non::u=u'++[a0]:=⟨(jI_).dropLast,(jI_).getLast d!,(List.dropLast_concat_getLast d!).symm⟩;have c1:Ju xs=u'++a0::n::b0::v':=by
  rw[J];show D.non::vR!=_;rw[show D.non::vR!=jI_++n::(v++bP_)by simp,eu,ev];simp
 have c2:Ju bn_=u'++a0::b0::v':=by
  show D.non::(u++v++bP_)=_;rw[show D.non::(u++v++bP_)=jI_++(v++bP_)by simp,eu,ev];simp
 have m1:(a0,n)∈Kc aQ_:=by rw[c1,fF];simp
 have m2:(n,b0)∈Kc aQ_:=by rw[c1,show u'++a0::n::b0::v'=(u'++[a0])++n::b0::v' by simp,fF];simp
 have F':kget kp n=some a0:=(n7!).mpr m1;have kz:kget kf n=some b0:=(g1!).mpr m2;have K':=K.out c1 c2 n0;have ka:∃k,Db a0=some k:=by
  have:=(K.hasF a0).mp (by rw[(g1!).mpr m1];simp);obtain rfl|z:=this
  .exact L!
  .exact gj _ z
 have kb:∃k,Db b0=some k:=by
  have:=(K.hasP b0).mp (by rw[(n7!).mpr m2];simp);obtain rfl|z:=this
  .exact L!
  .exact gj _ z
 obtain⟨ka,z8⟩:=ka;obtain⟨kb,z9⟩:=kb;have l1:(jD!).length<big:=by have:=yK (l:=kf) (d:=n) vO!;have:=K.fl;unfold big;omega
 have l2:(jE!).length<big:=by have:=yK (l:=kp) (d:=n) (by rw[F'];simp);have:=K.pl;unfold big;omega
 refine j_;have fin:R .non (Bg (Bg (Bg (Bg M p (.dct jE! bH!)) f (.dct jD! (ef+1))) f (.dct zv_ (Gs jD! a0 (ef+1)))) p (.dct zw_ (Gs jE! b0 bH!))):=by
  refine hR _ vQ! λb ut uv=>?_
  .rw[jG_,jH!,jH!,jG_];exact h.ob
  .rw[jH_,jI!,jI!,jH_]
 simpa[Lw,Ah,Am,w2,wl,Ay,Cb,Yh,Ee,Dz,Gw,Aa,fC,f2,h.ob,a1k,lkP,hf,hp,z8,z9,hn,kz,F',Lh,l1,l2,mup_ne,mup_same,ow,jy,h.ne,HR h.ne]using fin
def a0y{t:Au}{M:Mh}{xs:c!}{R:s_}(h:ea!)(hl:m_<5000)(gj:n6_)(hR:R T! M):Iq t [.fn r] M R:=by
 obtain⟨kf,ef,kp,ep,hf,hp,K⟩:=h.dc;have step:∀(done rest:c!) (ox:D) (tl:c!),xs=done++rest->rest++bP_=ox::tl->∀R',R' (.nx [some bb!,some T!,some .non]) M->
   Dd sh! si! (rest.length+1) [some bb!,some (.lst done),some ox] M R':=by
  intro done rest
  induction rest generalizing done with
  |nil=>
   intro ox tl e1 e2 R' ii;simp at e1 e2;obtain⟨rfl,_⟩:=e2;subst e1;simpa[Dd,De,fT,f2,Aa,fC,Ar,Cn]using ii
  |cons y rest ih=>
   intro ox tl e1 e2 R' ii;simp only[LY,MJ]at e2;obtain⟨rfl,rfl⟩:=e2;have hy:y∈xs:=by rw[e1];simp
   have y0:y≠.non:=λz=>K.no (z▸hy);obtain⟨k,ek⟩:=gj y hy;obtain⟨nx,tl,ev⟩:∃b0 v',rest++[D.non]=b0::v':=by cases rest with|nil=>exact bF_|cons a r=>exact bF_
   have kz:kget kf y=some nx:=(g1!).mpr (by
    rw[e1,Ju,show D.non::(done++y::rest++bP_)=(D.non::done)++y::(rest++bP_)by simp,ev,fF];simp)
   have hb:done.length<big:=by have:=congrArg List.length e1;simp at this;unfold big;omega
   have:=ih (done++[y]) nx tl (by simp[e1]) ev R' ii;rw[IE,Dd];simpa[De,fT,f2,Aa,fC,Ar,kA y0,Ah,Wh,Dz,Px,hb,Am,w2,wl,Ay,Gw,h.ob,a1k,Bt,hf,ek,kz]using this
 obtain⟨ox,tl,ev⟩:∃b0 v',xs++[D.non]=b0::v':=by cases xs with|nil=>exact bF_|cons a r=>exact bF_
 have kz:kget kf .non=some ox:=(g1!).mpr (by rw[Ju,ev];simp[Kc]);refine j_;simp only[Oh,Ah,Wh];simp[Dz,Mu,Ag,Am,w2,wl,Ay,Gw,Aa,fC,h.ob,a1k,Bt,hf,kz,Db,Ic];refine⟨m_+1,step [] xs ox tl rfl ev _ ?_⟩;simpa[Az,wl,Aa]using hR
abbrev root:D:=.str "root"
abbrev binn:D:=.str "bin"
def b3m:root≠binn:=by intro z;simp only[D.str.injEq]at z;exact absurd z k!
def Io(x:D):Prop:=∃a b,x=.tup vT_
def Qb(x:D):Prop:=∃a b c,x=.tup vU!
def Io.key(h:Io x):∃k,Db x=some k:=by obtain⟨a,b,rfl⟩:=h;exact L!
def Qb.key(h:Qb x):∃k,Db x=some k:=by obtain⟨a,b,c,rfl⟩:=h;exact L!
def Io.nn(h:Io x):x≠.non/\x≠root/\x≠binn:=by obtain⟨a,b,rfl⟩:=h;refine⟨?_,?_,?_⟩<;>(intro z;cases z)
def Qb.nn(h:Qb x):x≠.non:=by obtain⟨a,b,c,rfl⟩:=h;intro z;cases z
structure OW where
 rows:List aD_
 its:List D
 txt:D->List eb_
 num:D->List D
open Classical in
nonrec def chl(rows:i!)(x:D):List D:=(rows.filter λq=>q.2=x).map c_
open Classical in
nonrec def wo(rows:i!)(i:D):List aD_:=rows.filter λq=>q.1≠i
inductive Wn(rows:i!)(i:D):D->Prop
 |here:Wn rows i i
 |up {x p:D}:bb_∈rows->Wn rows i p->Wn rows i x
def Qe(rows:i!)(i p s:D)(rows':i!):Prop:=∃u v,wo rows i=u++v/\rows'=u++bR!::v/\((s∉chl dk! p/\chl u p=[])\/∃u',u=u'++[dk_])
def Ew(W:OW)(x:D):Prop:=x∈W.its\/x=root\/x=binn
structure Bs(W:OW):Prop where
 nd:oa_
 nm:∀x∈W.its,Io x
 rnd:(W.rows.map c_).Nodup
 ri:∀x,x∈W.rows.map c_↔x∈W.its
 rp:∀i p,bR!∈W.rows->Ew W p
 rk:∃rk:D->Nat,∀i p,bR!∈W.rows->rk p<rk i
 snd:∀x∈W.its,(ob!).Nodup
 sg:∀x∈W.its,∀q∈W.txt x,Qb q.1
 su:∀x∈W.its,∀y∈W.its,∀q∈W.txt x,∀q'∈W.txt y,q.1=q'.1->x=y
 nl:∀x∈W.its,(bR_).length=4
section
open Classical
def kQ{q:D×D}:q∈wo rows i↔q∈rows/\q.1≠i:=by unfold wo;rw[KQ];simp
def eV:c∈chl rows x↔(c,x)∈rows:=by
 unfold chl;rw[IH];show"!L"
 .rintro⟨⟨a,b⟩,h,rfl⟩;rw[KQ]at h;have:=h.2;simp at this;rw[<-this];exact h.1
 .intro h;exact⟨(c,x),KQ.mpr ⟨h,H!⟩,rfl⟩
def eI:chl bn_ x=chl u x++chl v x:=by unfold chl;rw[PJ,IU]
def jT:chl (bR!::v) p=i::chl v p:=by unfold chl;rw[JY d!];rfl
def vG(h:p≠x):chl (bR!::v) x=chl v x:=by unfold chl;rw[JQ kj!]
def b5f{rows:i!}:(chl rows x).Sublist kG_:=by unfold chl;exact(OU).map _
def kD{rows:i!}:((dk!).map c_).Sublist kG_:=by unfold wo;exact(OU).map _
def Qe.chl_same{rows:i!}(h:g3_)(nd:fD!):chl rows' p=Qa i s (chl dk! p):=by
 obtain⟨u,v,e,rfl,hc⟩:=h;rw[eI,jT];have bf:((bn_).map c_).Nodup:=by rw[<-e];exact nd.sublist kD
 obtain⟨Y,L⟩|⟨u',rfl⟩:=hc
 .unfold Qa;rw[HP Y,e,eI,L];rfl
 .rw[e];have hs:s∈chl vU_ p:=eV.mpr d!;unfold Qa;have L:chl (u'++[dk_]) p=chl u' p++[s]:=by rw[eI,jT];rfl
  have h3:chl vU_ p=chl u' p++s::chl v p:=by rw[eI,L];simp
  rw[HY hs,L,h3];have hu:s∉chl u' p:=λz=>by
   have:=eV.mp z;simp only[IU,HV,MZ,KB]at bf;rw[IY]at bf;exact bf.2.2 _ vV! s d! rfl
  rw[lA hu];simp
def Qe.chl_ne(h:g3_)(J:p≠x):chl rows' x=chl dk! x:=by obtain⟨u,v,e,rfl,hc⟩:=h;rw[eI,vG J,e,eI]
def Qe.mem(h:g3_){q:D×D}:q∈rows'↔q=bR!\/q∈wo rows i:=by
 obtain⟨u,v,e,rfl,hc⟩:=h;rw[e];simp only[HX,HN];show"!L"
 .rintro(z|z|z)<;>simp[z]
 .rintro(z|z|z)<;>simp[z]
def Qe.nd{rows rows':i!}(h:g3_)(nd:fD!):(rows'.map c_).Nodup:=by
 obtain⟨u,v,e,rfl,hc⟩:=h;have bf:((bn_).map c_).Nodup:=by rw[<-e];exact nd.sublist kD
 have ni:i∉(bn_).map c_:=λz=>by
  obtain⟨q,hq,hi⟩:=IH.mp z;rw[<-e]at hq;exact(ob_).2 hi
 simp only[IU,HV]at bf ni ⊢;rw[IY]at bf ⊢;rw[HX,ON]at ni;refine⟨bf.1,IJ.mpr ⟨ni.2,bf.2.1⟩,vB!⟩;obtain rfl|hb:=HN.mp hb
 .exact λz=>ni.1 jA!
 .exact vC!
def a1u(h:(i,x)∉rows):chl dk! x=chl rows x:=by unfold chl wo;rw[OD];congr 1;apply KU;intro q hq;simp only[ne_eq,decide_not,Bool.and_eq_left_iff_imp,JA,OL,LH,NY];rintro rfl z;exact h vW!
def b2g{rows:i!}(nd:fD!)(h:(i,x)∈rows):∃u v,chl rows x=u++i::v/\chl dk! x=u++v:=by
 obtain⟨a,b,e,_⟩:=nM h;have n1:i∉(a++b).map c_:=by
  rw[e]at nd;simp only[IU,HV]at nd ⊢;rw[IY,IJ]at nd;rw[HX,ON];exact⟨λz=>nd.2.2 _ z i d! rfl,nd.2.1.1⟩
 have e2:wo rows i=a++b:=by
  unfold wo;rw[e,PJ,JQ d!];have keep:∀l:List aD_,i∉l.map c_->l.filter (λq=>decide (q.1≠i))=l:=λl hl=>JX.mpr λq hq=>by
   simp only[ne_eq,decide_not,OL,LH,NY];exact λz=>hl jK_
  rw[IU,HX,ON]at n1;rw[keep a n1.1,keep b n1.2]
 refine⟨chl a x,chl b x,?_,?_⟩
 .rw[e,eI,jT]
 .rw[e2,eI]
def a9w{rows:i!}(nd:fD!)(h:bb_∈rows)(J:x≠i):Wn rows i x↔Wn rows i p:=by
 show"!L"
 .intro z;cases z with
  |here=>exact absurd rfl J
  |up L z=>rw[kB nd h L];exact z
 .exact λz=>.up h z
def b7w(h:∀p,bb_∉rows)(J:x≠i):¬Wn rows i x:=λz=>by
 cases z with
 |here=>exact J rfl
 |up L _=>exact h _ L
def Qe.winv{W:OW}(h:Qe W.rows i p s rows')(w:Bs W)(hi:g4!)(hp:Ew W p)(hw:¬Wn W.rows i p):Bs {W with rows:=rows'}:=by
 refine⟨w.nd,w.nm,h.nd w.rnd,jL!,jL_,?_,w.snd,w.sg,w.su,w.nl⟩
 .show x∈rows'.map c_↔x∈W.its;rw[<-w.ri x];show"!L"
  .intro z;obtain⟨q,hq,rfl⟩:=IH.mp z;obtain rfl|hq:=h.mem.mp hq
   .exact(w.ri i).mpr hi
   .exact IB (ob_).1
  .intro z;by_cases J:x=i
   .subst J;exact IH.mpr vY!
   .obtain⟨q,hq,rfl⟩:=IH.mp z;exact IB (h.mem.mpr (.inr (kQ.mpr ⟨hq,J⟩)))
 .show Ew W b;obtain z|z:=h.mem.mp hm
  .cases z;exact hp
  .exact w.rp _ _ (kQ.mp z).1
 .obtain⟨rk,ij⟩:=w.rk;refine⟨λx=>if Wn W.rows i x then rk x+rk p+1 else rk x,jL_⟩;obtain z|z:=h.mem.mp hm
  .cases z;show"#.";rw[HP hw,HY .here];omega
  .obtain⟨z1,z2⟩:=kQ.mp z;have:=ij _ _ z1;have q:=a9w w.rnd z1 z2;show"#.";by_cases c:Wn W.rows i a
   .rw[HY c,HY (q.mp c)];omega
   .rw[HP c,HP (λz=>c (q.mpr z))];exact this
def Fo(W:OW)(n:D)(rows':i!):OW:=⟨rows',W.its++[n],λx=>if x=n then[]else W.txt x,λx=>if x=n then[.int 0,.int 0,.int 0,.int 0]else W.num x⟩
def Qe.winv_put{W:OW}(h:Qe W.rows n p s rows')(w:Bs W)(hn:oe_)(ht:Io n)(hp:Ew W p):Bs bc!:=by
 have nn:n∉W.rows.map c_:=λz=>hn ((w.ri n).mp z);have jz:wo W.rows n=W.rows:=by
  show"!a";exact λz=>nn jK_
 have pn:p≠n:=λz=>by
  obtain q|q|q:=hp
  .exact hn (z▸q)
  .exact ht.nn.2.1 (z▸q)
  .exact ht.nn.2.2 (z▸q)
 have im:∀x,x∈(bc!).its↔x∈W.its\/x=n:=λx=>by simp[Fo]
 refine⟨?_,aG_,h.nd w.rnd,jL!,jL_,?_,aG_,aG_,jM!,aG_⟩
 .show(W.its++[n]).Nodup;rw[IY];exact⟨w.nd,H!,λa ha b hb=>by simp at hb;subst hb;exact λz=>hn jA!⟩
 .obtain z|rfl:=(cC_).mp J
  .exact w.nm x z
  .exact ht
 .rw[im,<-w.ri x];show"!L"
  .intro z;obtain⟨q,hq,rfl⟩:=IH.mp z;obtain rfl|hq:=h.mem.mp hq
   .exact .inr rfl
   .rw[jz]at hq;exact .inl (IB hq)
  .rintro(z|rfl)
   .obtain⟨q,hq,rfl⟩:=IH.mp z;exact IB (h.mem.mpr (.inr (by rw[jz];exact hq)))
   .exact IH.mpr vY!
 .have up:∀y,Ew W y->Ew bc! y:=λy hy=>by
   obtain q|q:=hy
   .exact .inl ((im y).mpr (.inl q))
   .exact .inr q
  obtain z|z:=h.mem.mp hm
  .cases z;exact up _ hp
  .rw[jz]at z;exact up _ (w.rp _ _ z)
 .obtain⟨rk,ij⟩:=w.rk;refine⟨λx=>if x=n then rk p+1 else rk x,jL_⟩;obtain z|z:=h.mem.mp hm
  .cases z;show"#.";rw[HP pn,k_];omega
  .rw[jz]at z;have ha:a≠n:=λq=>nn (q▸IB (f:=c_) z);have hb:b≠n:=λq=>by
    obtain y|y|y:=w.rp _ _ z
    .exact hn (q▸y)
    .exact ht.nn.2.1 (q▸y)
    .exact ht.nn.2.2 (q▸y)
   show"#.";rw[HP ha,HP hb];exact ij _ _ z
 .show((of!).map c_).Nodup;split
  .simp
  .rename_i q;exact w.snd x of_
 .show∀q∈of!,Qb q.1;split
  .intro q hq;cases hq
  .rename_i q;exact w.sg x of_
 .show∀q∈of!,∀q'∈(if y=n then[]else W.txt y),q.1=q'.1->x=y;split
  .intro q hq;cases hq
  .rename_i q1;split
   .intro q hq q' a9;cases a9
   .rename_i q2;exact w.su x ((og!).resolve_right q1) y (((im y).mp hy).resolve_right q2)
 .show(v3_).length=4;split
  .rfl
  .rename_i q;exact w.nl x of_
def Xr(b:D)(nw:ah!):List eb_->List eb_
 |[]=>[]
 |x::r=>if x.1=b then x::(nw++r)else x::Xr b nw r
nonrec def wrT(b:D)(nw l:ah!):List eb_:=if b∈l.map c_ then Xr b nw l else nw++l
def yN{u:ah!}{q:fk!}(hq:q.1=b):b∉u.map c_->Xr b nw (u++q::v)=u++q::(nw++v):=by
 induction u with
 |nil=>intro _;simp[Xr,hq]
 |cons x u ih=>
  intro h;rw[HV,HN,ON]at h;simp only[LY,Xr];rw[k8_,ih h.2]
def sB(b:D)(nw l:ah!):∃u v,l=u++v/\wrT b nw l=u++nw++v/\((u=[]/\b∉l.map c_)\/∃u' q,u=u'++[q]/\q.1=b/\b∉u'.map c_):=by
 by_cases h:b∈l.map c_
 .obtain⟨u,v,e,hu⟩:=nM h;obtain⟨u',r,e1,e2,e3⟩:=List.map_eq_append_iff.mp e;obtain⟨q,v',e4,e5,e6⟩:=List.map_eq_cons_iff.mp e3;subst e4;refine⟨u'++[q],v',by simp[e1],?_,.inr ⟨u',q,rfl,e5,by rw[e2];exact hu⟩⟩;unfold wrT;rw[HY h,e1,yN e5 (by rw[e2];exact hu)];simp
 .exact⟨[],l,rfl,by unfold wrT;rw[HP h];rfl,.inl cb_⟩
nonrec def setT(W:OW)(a:D)(l:ah!):OW:={W with txt:=λx=>if x=a then l else W.txt x}
def sE{W:OW}{l:ah!}(w:Bs W)(ha:ec_)(Y:(ez_).Nodup)(L:∀q∈l,Qb q.1)(h3:∀q∈l,∀y∈W.its,∀q'∈W.txt y,q.1=q'.1->y=a):Bs oh_:=by
 refine⟨w.nd,w.nm,w.rnd,w.ri,w.rp,w.rk,aG_,aG_,jM!,w.nl⟩
 .show((oi!).map c_).Nodup;split
  .exact Y
  .exact w.snd x J
 .show∀q∈oi!,Qb q.1;split
  .exact L
  .exact w.sg x J
 .show∀q∈oi!,∀q'∈(if y=a then l else W.txt y),q.1=q'.1->x=y;split
  .rename_i e1;subst e1;split
   .rename_i e2;intro _ _ _ _ _;exact e2.symm
   .intro q hq q' a9 e;exact(h3 q hq y hy q' a9 e).symm
  .split
   .rename_i e2;subst e2;intro q hq q' a9 e;exact h3 q' a9 x J q hq e.symm
   .exact w.su x J y hy
def Ss(W:OW)(a:D)(l:c!):OW:={W with num:=λx=>if x=a then l else W.num x}
def b5w{l:c!}(w:Bs W)(hl:av!=4):Bs (Ss W a l):=by
 refine⟨w.nd,w.nm,w.rnd,w.ri,w.rp,w.rk,w.snd,w.sg,w.su,aG_⟩;show(if x=a then l else W.num x).length=4;split
 .exact hl
 .exact w.nl x J
end
nonrec def oF(a1 a2 a3 a4 a5 a6:x7!):List ci!:=[("parents",.fn a1),("rows",.fn a2),("texts",.fn a3),("numbers",.fn a4),("written",.fn a5),("hidden",.fn a6)]
section
variable{a1 a2 a3 a4 a5 a6:x7!}
def oF1:List.lookup ed! Z_=some (D.fn a1):=by kernel_rfl
def oF2:List.lookup dl! Z_=some (D.fn a2):=by kernel_rfl
def oF3:List.lookup ed_ Z_=some (D.fn a3):=by kernel_rfl
def oF4:List.lookup fk_ Z_=some (D.fn a4):=by kernel_rfl
def oF5:List.lookup oj! Z_=some (D.fn a5):=by kernel_rfl
def oF6:List.lookup v7! Z_=some (D.fn a6):=by kernel_rfl
def oM1:List.lookup (Str.ofString "has") Z_=none:=by kernel_rfl
def oM2:List.lookup (Str.ofString "has_item") Z_=none:=by kernel_rfl
def oM3:List.lookup (Str.ofString "is_within") Z_=none:=by kernel_rfl
def oM4:List.lookup (Str.ofString "put") Z_=none:=by kernel_rfl
def oM5:List.lookup (Str.ofString "can_move") Z_=none:=by kernel_rfl
def oM6:List.lookup (Str.ofString "move") Z_=none:=by kernel_rfl
def oM7:List.lookup (Str.ofString "write") Z_=none:=by kernel_rfl
def oM8:List.lookup (Str.ofString "cut") Z_=none:=by kernel_rfl
def oM9:List.lookup (Str.ofString "set_number") Z_=none:=by kernel_rfl
def d4m:List.lookup (Str.ofString "parent_of") Z_=none:=by kernel_rfl
def d2z:List.lookup (Str.ofString "children_of") Z_=none:=by kernel_rfl
def d4l:List.lookup (Str.ofString "signs_of") Z_=none:=by kernel_rfl
def d4k:List.lookup (Str.ofString "text_of") Z_=none:=by kernel_rfl
def d4j:List.lookup (Str.ofString "numbers_of") Z_=none:=by kernel_rfl
end
def rM:List.lookup (Str.ofString "put_behind") jO!=none/\List.lookup (Str.ofString "take_out") jO!=none/\List.lookup (Str.ofString "listed") jO!=none/\List.lookup (Str.ofString "holds") jO!=none:=⟨jO_,jO_,jO_,jO_⟩
inductive Nw
 |ob|par|rows|texts|nums|writ|hid|rO (x:D)|rF (x:D)|rP (x:D)|tO (x:D)|tF (x:D)|tP (x:D)|nm (x:D)|oth
structure Sa(t:Au)(M:Mh)(o:x7!)(rl:bo!)(W:OW)(B:Nat)(a1 a2 a3 a4 a5 a6:x7!)(k1 k2 k3 k4 k5 k6:i!):Prop where
 ob:M o=some wb_
 d1:∃e,M a1=some (.dct k1 e)
 d2:∃e,M a2=some (.dct k2 e)
 d3:∃e,M a3=some (.dct k3 e)
 d4:∃e,M a4=some (.dct k4 e)
 d5:∃e,M a5=some (.dct k5 e)
 d6:∃e,M a6=some (.dct k6 e)
 ro:rl o=.ob
 r1:rl a1=.par
 r2:rl a2=.rows
 r3:rl a3=.texts
 r4:rl a4=.nums
 r5:rl a5=.writ
 r6:rl a6=.hid
 p0:kget k1 root=some .non/\kget k1 binn=some .non
 pr:∀i p,bR!∈W.rows->kget k1 i=some p
 row:∀x,Ew W x->∃r f p,kget k2 x=some bb!/\Ej t M r f p g8!/\rl r=.rO x/\rl f=.rF x/\rl p=.rP x
 rown:∀x,¬Ew W x->kget k2 x=none
 txt:∀x,x∈W.its->∃r f p,kget k3 x=some bb!/\Ej t M r f p ob!/\rl r=.tO x/\rl f=.tF x/\rl p=.tP x
 txtn:∀x,x∉W.its->kget k3 x=none
 num:∀x,x∈W.its->∃q,kget k4 x=some bS!/\M q=some fl!/\rl q=.nm x
 wr:∀x∈W.its,∀q∈W.txt x,kget k5 q.1=some q.2.1
 hi:∀x∈W.its,∀q∈W.txt x,(kget k6 q.1).isSome=!q.2.2
 hk:∀s,kget k6 s≠none->∃x,x∈W.its/\s∈(aH_).map c_
 l1:oj_<=B
 l2:k2.length<=B
 l3:k3.length<=B
 l4:k4.length<=B
 l5:k5.length<=B
 l6:k6.length<=B
 lr:cc!<=B
 lt:∀x∈W.its,(aH_).length<=B
 live:∀b,rl b≠.oth->M b≠none
def Cf(t:Au)(M:Mh)(o:x7!)(rl:bo!)(W:OW)(B:Nat):Prop:=∃a1 a2 a3 a4 a5 a6 k1 k2 k3 k4 k5 k6,Sa t M o rl W B a1 a2 a3 a4 a5 a6 k1 k2 k3 k4 k5 k6
def Fr(M:Mh)(rl:bo!)(M':Mh)(ac:bo!):Prop:=∀b,M b≠none->rl b=.oth->M' b=M b/\ac b=.oth
def Fr.refl{M:Mh}{rl:bo!}:Fr M rl M rl:=λb _ h=>cb_
def Fr.trans{M M1 M2:Mh}{rl dm uw:bo!}(Y:Fr M rl M1 dm)(L:Fr M1 dm M2 uw):Fr M rl M2 uw:=λb hb hr=>by
 show"!s"
section
variable{t:Au}{M:Mh}{o:x7!}{rl:Addr->Nw}{W:OW}{B:Nat}{R:D->Mh->Prop}
def oB{W:OW}(w:Bs W)(h:bS_):∃k,Db x=some k:=by
 obtain h|rfl|rfl:=h
 .exact(w.nm x h).key
 .exact L!
 .exact L!
def wF{W:OW}(w:Bs W):∀c∈chl W.rows x,∃k,Db c=some k:=λc hc=>by
 have:=eV.mp hc;exact(w.nm c ((w.ri c).mp vV!)).key
def a5o{W:OW}:(g8!).length<=cc!:=by have:=(b5f (rows:=W.rows) (x:=x)).length_le;simpa using this
def b2v{W:OW}(w:Bs W)(J:aZ!):∀c∈(aH_).map c_,∃k,Db c=some k:=λc hc=>by
 obtain⟨q,hq,rfl⟩:=IH.mp hc;exact(wg_).key
def Sa.noOb{a1 a2 a3 a4 a5 a6:x7!}{k3:i!}(h:g9!)(hm:(Z_).lookup m=none):Dh t.B4 m M N_:=by simp[Dh,h.ob,hm]
def tX(h:aA_)(hk:aD!)(hR:R (.bl (open Classical in decide (Ew W x))) M):Cd t ee! M R:=by
 obtain⟨a1,a2,a3,a4,a5,a6,k1,k2,k3,k4,k5,k6,h⟩:=h;obtain⟨e2,L⟩:=h.d2;refine j_;have e3:(kget k2 x).isSome=(open Classical in decide (Ew W x)):=by
  by_cases z:Ew W x
  .obtain⟨r,f,p,e,_⟩:=h.row x z;rw[e];simp[z]
  .rw[h.rown x z];simp[z]
 rw[<-e3]at hR;simpa[Ni,Az,w2,wl,Ay,Gw,Dz,Aa,h.ob,oF2,Ib,L,hk]using hR
def hV(h:aA_)(hk:aD!)(hR:R (.bl (open Classical in decide g9_)) M):Cj t ee! M R:=by
 obtain⟨a1,a2,a3,a4,a5,a6,k1,k2,k3,k4,k5,k6,h⟩:=h;obtain⟨e2,L⟩:=h.d3;refine j_;have e3:(kget k3 x).isSome=(open Classical in decide g9_):=by
  by_cases z:x∈W.its
  .obtain⟨r,f,p,e,_⟩:=h.txt x z;rw[e];simp[z]
  .rw[h.txtn x z];simp[z]
 rw[<-e3]at hR;simpa[Iz,Az,w2,wl,Ay,Gw,Dz,Aa,h.ob,oF3,Ib,L,hk]using hR
def a3c(h:aA_)(hk:aD!)(J:jQ!)(hR:R p M):Fk t ee! M R:=by obtain⟨a1,a2,a3,a4,a5,a6,k1,k2,k3,k4,k5,k6,h⟩:=h;obtain⟨e1,Y⟩:=h.d1;refine j_;simpa[Ij,Az,w2,wl,Ay,Gw,Dz,Aa,h.ob,oF1,Bt,Y,hk,h.pr x p J]using hR
def nK(h:aA_)(w:Bs W)(hB:B<4000)(J:bS_)(hR:R dl_ M):Dr t ee! M R:=by obtain⟨a1,a2,a3,a4,a5,a6,k1,k2,k3,k4,k5,k6,h⟩:=h;obtain⟨e2,L⟩:=h.d2;obtain⟨k,hk⟩:=oB w J;obtain⟨r,f,p,e,hr,_⟩:=h.row x J;refine j_;simp[Hb,Az,w2,wl,Ay,Gw,Dz,Aa,h.ob,oF2,Bt,L,hk,e,Bb,Af,Dh,hr.ob,rM];exact a0y hr (by have:=a5o (W:=W) (x:=x);have:=h.lr;omega) (wF w) hR
def zM(h:aA_)(w:Bs W)(J:aZ!)(hR:R fl! M):Fa t ee! M R:=by
 obtain⟨a1,a2,a3,a4,a5,a6,k1,k2,k3,k4,k5,k6,h⟩:=h;obtain⟨e4,h4⟩:=h.d4;obtain⟨k,hk⟩:=(w.nm x J).key;obtain⟨q,e,hq,_⟩:=h.num x J;have hl:(bR_).length<=big:=by rw[w.nl x J];decide
 refine j_;simpa[Hr,Az,w1,Ab,Af,w2,wl,Ay,Gw,Dz,Aa,h.ob,oF4,Bt,h4,hk,e,Wa,Su,hq,hl]using hR
end
def a1l:∀(xs ys:w_),Jh (xs.map D.int) (ys.map D.int)=(xs==ys)
 |[],[]=>by simp[Jh]
 |[],y::ys=>by simp[Jh]
 |x::xs,[]=>by simp[Jh]
 |x::xs,y::ys=>by simp[Jh,En,a1l xs ys]
def Sd(d:D):Prop:=d=.non\/(∃x,d=.str x)\/(∃i,d=.int i)\/∃ns:List Int,d=.tup jw!
def a8m:∀{xs ys:w_},xs.map D.int=ys.map D.int->xs=ys
 |[],[],_=>rfl
 |[],_::_,h=>by simp at h
 |_::_,[],h=>by simp at h
 |x::xs,y::ys,h=>by
  simp only[HV,MJ,D.int.injEq]at h;rw[h.1,a8m h.2]
def nG(J:Sd x)(hy:Sd y):En x y=(open Classical in decide (x=y)):=by
 obtain rfl|⟨a,rfl⟩|⟨i,rfl⟩|⟨ns,rfl⟩:=J<;>obtain rfl|⟨b,rfl⟩|⟨j,rfl⟩|⟨ms,rfl⟩:=hy<;>simp[En,a1l]
 all_goals
  rw[LS]
  first
   |(simp only[NE,JA,D.tup.injEq];exact⟨λz=>by rw[z],a8m⟩)
   |(simp only[NE,JA])
   |simp
def a0u:∀(ns:w_),By pv!=true
 |[]=>by simp[By]
 |n::ns=>by simp[By,Bi,a0u ns]
def eA(h:Sd x):Bi x=true:=by obtain rfl|⟨a,rfl⟩|⟨i,rfl⟩|⟨ns,rfl⟩:=h<;>simp[Bi,a0u]
def a9c:∀(ns:w_),Dq pv!<=1
 |[]=>by simp[Dq]
 |n::ns=>by have:=a9c ns;simp[Dq,Il];omega
def iZ(h:Sd x):Il x<=5:=by
 obtain rfl|⟨a,rfl⟩|⟨i,rfl⟩|⟨ns,rfl⟩:=h<;>simp[Il]
 have:=a9c ns;omega
def Io.sd(h:Io x):Sd x:=by obtain⟨a,b,rfl⟩:=h;exact .inr ol!
def Qb.sd(h:Qb x):Sd x:=by obtain⟨a,b,c,rfl⟩:=h;exact .inr wj_
def iP(x:Str):Sd dL!:=.inr (.inl ⟨x,rfl⟩)
def a4z{W:OW}(w:Bs W)(h:bS_):Sd x:=by
 obtain h|rfl|rfl:=h
 .exact(w.nm x h).sd
 .exact iP _
 .exact iP _
def a3p(J:Sd x)(hy:Sd y):Eg x y=some (.bl (!(open Classical in decide (x=y)))):=by unfold Eg;have:=iZ J;rw[eA J,eA hy,nG J hy];rw[ef!]
def lF(J:Sd x)(hy:Sd y):Ba x y=some (.bl (open Classical in decide (x=y))):=by unfold Ba;have:=iZ J;rw[eA J,eA hy,nG J hy];rw[ef!]
section
variable{t:Au}{M:Mh}{o:x7!}{rl:Addr->Nw}{W:OW}{B:Nat}{R:D->Mh->Prop}
def Ej.keep{M':Mh}(h:ea!)(e1:M' r=M r)(e2:M' f=M f)(e3:M' p=M p):Ej t M' r f p xs:=by obtain⟨kf,ef,kp,ep,hf,hp,K⟩:=h.dc;exact⟨e1.trans h.ob,⟨kf,ef,kp,ep,e2.trans hf,e3.trans hp,K⟩,h.ne⟩
def Ej.live(h:ea!):M r≠none/\M f≠none/\M p≠none:=by obtain⟨kf,ef,kp,ep,hf,hp,K⟩:=h.dc;exact⟨by rw[h.ob];simp,by rw[hf];simp,by rw[hp];simp⟩
def qN{ρ:Ae}(hR:∀r f p M',M r=none->M f=none->M p=none->r≠f->r≠p->Ej t M' r f p []->(∀b,b≠r->b≠f->b≠p->M' b=M b)->R bb! M'):Ga t.B5 1 (Hv t) Af ρ M R:=by
 refine⟨rfl,λr hr=>j_⟩;have nf:∀{f:x7!},Bg M r (.obj t.B5 []) f=none->f≠r/\M f=none:=λ{f} z=>by
  by_cases e:f=r
  .rw[e,mup_same]at z;cases z
  .rw[mup_ne e]at z;exact⟨e,z⟩
 simp only[Ua,Ah,Fn];intro f hf;obtain⟨f1,f2⟩:=nf hf;refine⟨mup_same,R!,by simp[Db],H!,?_⟩;simp[wl,Aa,mup_ne,mup_same,HR f1,Bq];intro p hp;have p1:p≠r:=λe=>by rw[e,mup_same]at hp;cases hp
 rw[om_]at hp;have p2:p≠f:=λe=>by rw[e,mup_same]at hp;cases hp
 rw[mup_ne p2,mup_ne p2,om_]at hp;simp[Ek,Ny,wl,fC,Aa,mup_ne,mup_same,HR f1,HR p1,Bq,Db];have b8:¬(Str.ofString "following"=Str.ofString "preceding"):=by decide+kernel
 simp only[b8,JK];refine hR r f p _ hr f2 hp (HR f1) (HR p1) ⟨mup_same,⟨jx_,1,jx_,1,?_,?_,b8s⟩,HR p2⟩ λb Y L h3=>?_
 .rw[mup_ne f1,wm!,wm!,mup_ne f1,mup_same]
 .rw[om_,mup_same]
 .rw[cd_,on!,on!,cd_,cF!,cF!,cd_]
def b0p{W:OW}(w:Bs W)(h:aZ!):∃p,bb_∈W.rows:=by obtain⟨⟨a,p⟩,hq,rfl⟩:=IH.mp ((w.ri x).mpr h);exact⟨p,hq⟩
def tJ{W:OW}(w:Bs W)(h:x∉W.its):∀p,bb_∉W.rows:=λp z=>h ((w.ri x).mp vy_)
def b3i{W:OW}(w:Bs W):root∉W.its:=λz=>(w.nm _ z).nn.2.1 rfl
def c3l{W:OW}(w:Bs W):binn∉W.its:=λz=>(w.nm _ z).nn.2.2 rfl
def d2e(h:Io x\/x=root\/x=binn):x≠.non:=by
 obtain h|rfl|rfl:=h
 .exact h.nn.1
 .show"!f"
 .show"!f"
def d0a{W:OW}(w:Bs W)(h:bS_):x≠.non:=d2e (h.imp_left (w.nm x))
def uH{k3:i!}(h:g9!)(w:Bs W)(hi:Io i){rk:D->Nat}(ij:wm_):
  ∀(n:Nat) (x:D),rk x<n->Ew W x->∀(R':j!),(Wn W.rows i x->R' (.nx [D_,K!,K!]) M)->(¬Wn W.rows i x->R' (.nx [D_,some .non,K!]) M)->
   ∃m,Dd gp! gp_ m oo! M R'
 |0,x,hn,_,_,_,_=>by omega
 |n+1,x,hn,J,R',r1,r2=>by
  obtain⟨e1,Y⟩:=h.d1;have x0:=d0a w J;have ne:=a3p (a4z w J) hi.sd;by_cases e:x=i
  .subst e;have:=r1 .here;refine fn!;simpa[Dd,De,Cz,fT,f2,Aa,fC,Ar,kA x0,ne]using this
  .have st:∀(p:D) (m:Nat),kget k1 x=some p->Dd gp! gp_ m [D_,cG!,K!] M R'->
     Dd gp! gp_ (m+1) oo! M R':=λp m hp hw=>by
    obtain⟨k,hk⟩:=oB w J;rw[Dd];simpa[De,Cz,fT,f2,Aa,fC,Ar,kA x0,ne,e,Am,w2,wl,Ay,Gw,Dz,h.ob,oF1,Bt,Y,hk,hp]using hw
   have top:kget k1 x=some .non->wn_->∃m,Dd gp! gp_ m oo! M R':=λhp hr=>by
    have:=r2 (b7w hr e);refine⟨1+1,st .non 1 hp ?_⟩;simpa[Dd,De,Cz,fT,f2,Aa,fC,Ar,Cn]using this
   obtain J|rfl|rfl:=J
   .obtain⟨p,hp⟩:=b0p w J;have q:=a9w w.rnd hp e;have:=ij _ _ hp;obtain⟨m,hm⟩:=uH h w hi ij n p a! (w.rp _ _ hp) R' wo_ (λz=>r2 λy=>z (q.mp y));exact⟨m+1,st p m (h.pr _ _ hp) hm⟩
   .exact top h.p0.1 (tJ w (b3i w))
   .exact top h.p0.2 (tJ w (c3l w))
def a4y(h:aA_)(w:Bs W)(J:bS_)(hi:Io i)(hR:R (.bl (open Classical in decide (Wn W.rows i x))) M):Fm t [bc_,x,i] M R:=by
 obtain⟨a1,a2,a3,a4,a5,a6,k1,k2,k3,k4,k5,k6,h⟩:=h;obtain⟨rk,ij⟩:=w.rk;obtain⟨m,hm⟩:=uH h w hi ij (rk x+1) x a! J (λr M1=>match r with|.nx ai=>Az (wl iF_) ai M1 hb_|.rt d=>R d M1)
  (λz=>by simp only[z,PZ]at hR;simpa[Az,wl,f2,Aa,fC,Ar,kA hi.nn.1]using hR)
  (λz=>by simp only[z,QL]at hR;simpa[Az,wl,f2,Aa,fC,Ar,Cn]using hR)
 refine j_;simp only[Ik,Ah,Ic];exact⟨m,hm⟩
def a9l(h:aA_)(w:Bs W)(cu:fo_)(gj:op_)(hR:∀b:Bool,(b=true↔eh_)->R bK_ M):Fx t [bc_,i,x] M R:=by
 have h':=h;show"!3";simp only[Ja,Az,Jw,wT,Bb,wl,Ab,Af,Aa];simp[oq!];show"!i"
 .simp only[c1,PZ,JT];refine⟨hA.noOb oM1,?_⟩;refine tX h gj ?_;by_cases c2:Ew W x
  .simp only[c2,PZ,JT,Wx,wT,Bb,wl,Ab,Af,Aa];refine⟨hA.noOb oM3,rfl,?_⟩;refine a4y h w c2 (w.nm i c1) ?_;exact hR _ (by simp[c1,c2])
  .simp only[c2,QL];exact hR _ (by simp[c2])
 .simp only[c1,QL];exact hR _ (by simp[c1])
def zE{p n:Int}(h:aA_)(w:Bs W)(cu:fo_)(p0:0<=p)(p3:p<=3)
  (hR:∀M',Cf t M' o rl (open Classical in if i∈W.its then Ss W i oq_ else W) B->Fr M rl M' rl->R .non M'):Ez t [bc_,i,.int p,aR!] M R:=by
 have h':=h;show"!3";simp only[Hq,Av,wT,Bb,wl,Ab,Af,Aa];simp[Dh,hA.ob,oM2];show"!i"
 .simp only[c1,JT]at hR;obtain⟨e4,h4⟩:=hA.d4;obtain⟨q,e,hq,j0⟩:=hA.num i c1;have J:Ea (jT_).length p=some p.toNat:=by
   rw[w.nl i c1];unfold Ea;rw[HY p0,ac!]
  have ax:∀b,rl b≠.nm i->Bg M q (.lst oq_) b=M b:=λb hb=>mup_ne λz=>hb wq!;have fin:R .non (Bg M q (.lst oq_)):=by
   refine hR _ ⟨a1,a2,a3,a4,a5,a6,k1,k2,k3,k4,k5,k6,?_⟩ λb hb hr=>wr!;refine{hA with ob:=?_,d1:=?_,d2:=?_,d3:=?_,d4:=?_,d5:=?_,d6:=?_,row:=?_,txt:=?_,num:=?_,live:=?_}
   .rw[ax o O!];exact hA.ob
   .rw[ax a1 bT!];exact hA.d1
   .rw[ax a2 aB!];exact hA.d2
   .rw[ax a3 aZ_];exact hA.d3
   .rw[ax a4 a0!];exact hA.d4
   .rw[ax a5 aS!];exact hA.d5
   .rw[ax a6 aB_];exact hA.d6
   .show"!v"
   .intro x J;obtain⟨r,f,p',g1,g2,g3,g4,g5⟩:=hA.txt x J;exact os_
   .intro x J;by_cases c:x=i
    .subst c;refine⟨q,e,?_,j0⟩;rw[mup_same];simp[Ss]
    .obtain⟨q',g1,g2,g3⟩:=hA.num x J;refine⟨q',g1,?_,g3⟩;rw[ax q' (by rw[g3];simpa using c),g2];simp[Ss,c]
   .intro b hb;by_cases c:b=q
    .rw[c,mup_same];simp
    .rw[mup_ne c];show"#%"
  simpa[c1,Cb,w2,wl,Ay,Gw,Dz,Aa,hA.ob,oF4,Bt,h4,cu,e,Lh,hq,J]using fin
 .simp only[c1,JK]at hR;have:=hR M h .refl;simpa[c1,Bn]using this
end
end K24
namespace K24
open PySem L2 DL
open Classical
section
variable{t:Au}{M:Mh}{o:x7!}{rl:Addr->Nw}{W:OW}{B:Nat}{R:D->Mh->Prop}
def Cf.mono{B':Nat}(h:aA_)(hb:B<=B'):Cf t M o rl W B':=by obtain⟨a1,a2,a3,a4,a5,a6,k1,k2,k3,k4,k5,k6,hA⟩:=h;exact⟨a1,a2,a3,a4,a5,a6,k1,k2,k3,k4,k5,k6,{hA with l1:=JB hA.l1 hb,l2:=JB hA.l2 hb,l3:=JB hA.l3 hb,l4:=JB hA.l4 hb,l5:=JB hA.l5 hb,l6:=JB hA.l6 hb,lr:=JB hA.lr hb,lt:=λx J=>JB jU! hb}⟩
def sH(i:D):setT W i bp_=W:=by
 unfold setT;cases W with
 |mk a b c d=>
  congr 1;funext x;show"#.";split
  .rename_i e;rw[e]
  .rfl
open Classical in
nonrec def cutT(cy:c!)(l:ah!):List eb_:=l.map λq=>ot_
def c3b(l:ah!):cutT [] l=l:=by unfold cutT;simp
def pQ(g:c!)(l:ah!):(cutT g l).map c_=l.map c_:=by unfold cutT;simp
def a9g(g:c!)(s:D)(l:ah!):cutT [s] (cutT g l)=cutT (g++[s]) l:=by unfold cutT;rw[JL];apply KJ;intro q _;simp only[Function.comp,HX];congr 2;rw[Bool.and_assoc];congr 1;by_cases Y:q.1∈g<;>by_cases L:q.1∈[s]<;>simp[Y,L]
def c6u{l:ah!}(h:s∉l.map c_):cutT [s] l=l:=by
 unfold cutT
 conv=>rhs;rw[<-RU l]
 apply KJ;intro q hq;have:q.1≠s:=λz=>h jK_;simp[this]
def a1s(w:Bs W)(hi:g4!)(g:c!):Bs ou!:=by
 refine sE w hi (by rw[pQ];exact w.snd i hi) ej_ ou_
 .show"!:";exact w.sg i hi q0 h0
 .show"!:";exact(w.su i hi y hy q0 h0 q' a9 e).symm
def sF(i:D)(l l':ah!):setT (setT W i l) i l'=setT W i l':=by unfold setT;congr 1;funext x;dsimp only;split<;>rfl
def vS(i:D)(l:ah!):(setT W i l).txt i=l:=by simp[setT]
def c5z{ks:MK}{k3:i!}{e6:Nat}(hA:g9!)(w:Bs W)(hi:g4!)(hs:s∈(bp_).map c_):
  Sa t (Bg M a6 ov_) o rl ow! (B+1) a1 a2 a3 a4 a5 a6 k1 k2 k3 k4 k5 ov!/\Fr M rl (Bg M a6 ov_) rl:=by
 have ax:∀b,rl b≠.hid->Bg M a6 ov_ b=M b:=λb hb=>mup_ne λz=>hb (by rw[z];exact hA.r6);refine⟨?_,λb hb hr=>wr!⟩;have up:∀{x:Nat},x<=B->x<=B+1:=λh=>Nat.le_succ_of_le h;refine{hA with ob:=?_,d1:=?_,d2:=?_,d3:=?_,d4:=?_,d5:=?_,d6:=jV!,row:=?_,txt:=?_,num:=?_,live:=?_,wr:=?_,hi:=?_,l1:=up hA.l1,l2:=up hA.l2,l3:=up hA.l3,l4:=up hA.l4,l5:=up hA.l5,l6:=JB ea_ (Nat.succ_le_succ hA.l6),lr:=up hA.lr,lt:=?_,hk:=?_}
 .rw[ax o O!];exact hA.ob
 .rw[ax a1 bT!];exact hA.d1
 .rw[ax a2 aB!];exact hA.d2
 .rw[ax a3 aZ_];exact hA.d3
 .rw[ax a4 a0!];exact hA.d4
 .rw[ax a5 aS!];exact hA.d5
 .show"!v"
 .intro x J;obtain⟨r,f,p',g1,g2,g3,g4,g5⟩:=hA.txt x J;refine⟨r,f,p',g1,?_,g3,g4,g5⟩;have e:((ow!).txt x).map c_=(aH_).map c_:=by
   show wv!;split
   .rename_i z;rw[z,pQ]
   .rfl
  rw[e];exact g2.keep (ax _ dn!) (ax _ ei_) (ax _ ej!)
 .intro x J;obtain⟨q,g1,g2,g3⟩:=hA.num x J;exact⟨q,g1,(ax q dn!).trans g2,g3⟩
 .show∀x∈W.its,∀q∈jV_,kget k5 q.1=some q.2.1;intro x J;split
  .intro q hq;show"!:";exact hA.wr i hi q0 h0
  .exact hA.wr x J
 .show∀x∈W.its,∀q∈jV_,(kget ov! q.1).isSome=!q.2.2;intro x J;split
  .intro q hq;show"!:";show"#.";by_cases c:q0.1=s
   .rw[c,cV];simp
   .rw[fp!,hA.hi i hi q0 h0];simp[c]
  .rename_i c;intro q hq;have:s≠q.1:=λz=>by
    obtain⟨q0,h0,e0⟩:=IH.mp hs;exact c (w.su x J i hi q hq q0 h0 (by rw[<-z,e0]))
   rw[cW this];exact hA.hi x J q hq
 .intro s' b6;have nm:∀x,((ow!).txt x).map c_=(aH_).map c_:=λx=>by
   show wv!;split
   .rename_i z;rw[z,pQ]
   .rfl
  by_cases c:s=s'
  .subst c;exact⟨i,hi,by rw[nm];exact hs⟩
  .rw[cW c]at b6;obtain⟨x,Y,L⟩:=hA.hk s' b6;exact⟨x,Y,by rw[nm];exact L⟩
 .show∀x∈W.its,(jV_).length<=B+1;intro x J;split
  .rw[show(wu!).length=(bp_).length by unfold cutT;simp];exact up (hA.lt i hi)
  .exact up jU!
 .intro b hb;by_cases c:b=a6
  .rw[c,mup_same];simp
  .rw[mup_ne c];show"#%"
abbrev CQ(t:Au):WS:=(Ah sy!
 sz_)
def yU{x y z m:Int}(hi:g4!)(w:Bs W):∀(js:w_) (M:Mh) (g:c!) (B:Nat) (uh J':ao!) (R:j!),B+js.length<4000->Cf t M o rl ou! B->
  (∀M' ρ,Cf t M' o rl (setT W i (cutT (g++js.map λj=>.tup jX_) bp_)) (B+js.length)->Fr M rl M' rl->R aK_ M')->
  Ig cx! ae_ (CQ t) (js.map .int) [D_,K!,some ek_,some do!,uh,J'] M R
 |[],M,g,B,uh,J',R,hB,h,hR=>⟨trivial,hR M _ kj! .refl⟩
 |j::js,M,g,B,uh,J',R,hB,h,hR=>by
  refine aJ!;have w2:=a1s w hi g;obtain⟨ki,cu⟩:=(hf!).key;have cz:=h;obtain⟨a1,a2,a3,a4,a5,a6,k1,k2,k3,k4,k5,k6,hA⟩:=cz;obtain⟨r,f,p,g1,g2,g3,g4,g5⟩:=hA.txt i hi;obtain⟨e3,h3⟩:=hA.d3;obtain⟨e6,h6⟩:=hA.d6;have l6:k6.length<big:=by have:=hA.l6;unfold big;simp at hB;omega
  simp only[IE]at hB hR;have ux:Ao jZ! (.tup [dS_])=some hf_:=by simp[Ao,big]
  have uy:Bj ek_ none (some 2)=some jZ!:=by simp[Bj,Dk,HT.sIx]
  simp[Dz,Cg,Ah,Am,wl,f2,Dp,Aa,Aq,Ap,fC,Aw,Ac,Ag,uy,ux,Av,wT,Bb,DL.w2,Ay,Gw,hA.ob,oF3,Bt,h3,cu,g1,Dh,g2.ob,Ab,Af,rM,-List.lookup_eq_none_iff];refine a8p g2 g1_ ?_;rw[vS]at g2;by_cases c:D.tup jX_∈((ou!).txt i).map c_
  .simp only[c,PZ,JT];obtain⟨q1,q2⟩:=c5z (ks:=none) (e6:=Gs k6 hf_ e6) hA w2 hi c;rw[sF,vS,a9g]at q1;have:=yU (z:=z) (m:=m) hi w js _ ox! (B+1) (some cH!) (some hf_) R a! wz_ (λM' ρ h' f'=>hR M' ρ wA! (q2.trans f'));simpa[Cb,wl,Ay,Gw,Dz,Aa,fC,hA.ob,oF6,Lh,h6,show Db hf_=some _ from rfl,l6]using this
  .simp only[c,QL];have q1:Cf t M o rl (setT W i (cutT ox! bp_)) (B+1):=by
    rw[<-a9g,c6u (by rw[vS]at c;exact c)];exact h.mono (QB B)
   have:=yU (z:=z) (m:=m) hi w js M ox! (B+1) (some cH!) (some hf_) R a! q1 (λM' ρ h' f'=>hR M' ρ wA! f');simpa[Bn]using this
def d0w{x y z m:Int}(h:aA_)(w:Bs W)(cu:fo_)(hB:hh!)(z0:0<=z)(m1:1<=m)(m16:z+m<=16)
  (hR:∀M',Cf t M' o rl (open Classical in if i∈W.its then setT W i (cutT wD! bp_)else W) bq!->Fr M rl M' rl->R .non M'):
  Js t [bc_,i,.tup jY!,el_] M R:=by
 have h':=h;show"!3";simp only[Nj,Ah,Av,Ip,wT,Bb,wl,Ab,Af,Aa];simp[oq!];show"!i"
 .simp only[c1,JT]at hR;have hr:Tc dT_ sw! [D_,K!,some ek_,some do!,none,none]=some ((wE!).map D.int):=by
   have e1:Ak ek_ bx_=some (.int z):=rfl;have e2:(z+m - z).toNat=m.toNat:=by congr 1;omega
   have b:-1000<=z/\z<=100000/\-1000<=z+m/\z+m<=100000:=by omega
   simp[Tc,f2,Aa,fC,e1,Ao,b,e2,Sv,Function.comp]
  have:=yU (t:=t) (o:=o) (rl:=rl) (x:=x) (y:=y) (z:=z) (m:=m) c1 w wE! M [] B none none hb_ am! (by rw[c3b,sH];exact h) (λM' ρ L f2=>hR M' (by
   simp only[KP,JL,IK,MF]at L;exact L.mono a!) f2)
  simp only[c1,PZ,LH,IW,JK,Bn,Df,Ia,Dz,hr];exact this
 .simp only[c1,JK]at hR;have:=hR M (h.mono a!) .refl;simpa[c1,Qj]using this
def EA(c7:D)(U l:ah!):Prop:=(U=[]/\c7∉l.map c_)\/∃u' q,U=u'++[q]/\q.1=c7/\c7∉u'.map c_
def EA.names(h:EA c7 U hi!):Qa s c7 ((hi!).map c_)=(wF_).map c_:=by
 obtain⟨rfl,h⟩|⟨u',q,rfl,e,h⟩:=h
 .unfold Qa;rw[HP h];simp
 .unfold Qa;rw[HY hi_];simp only[IU,HV,MZ,KB,LY,KP];rw[e,lA h]
def b7t{M1:Mh}{e5:Nat}{k3:i!}(hA:g9!)(w:Bs W)(hi:g4!)
  (hl:W.txt i=U++v)(hb:EA c7 U hi!)(hs:Qb s)(hf:∀x∈W.its,s∉(aH_).map c_)(g3:rl r=.tO i)(g4:rl f=.tF i)(g5:rl p=.tP i)(g1:kget k3 i=some bb!)
  (hr:Ej t M1 r f p (Qa s c7 ((bp_).map c_)))(fr:∀b,b≠f->b≠p->M1 b=M b):
  Sa t wI_ o rl oz_ (B+1) a1 a2 a3 a4 a5 a6 k1 k2 k3 k4 (As k5 s c) k6/\Fr M rl wI_ rl/\Bs oz_:=by
 have ax:∀b,rl b≠.writ->rl b≠.tF i->rl b≠.tP i->Bg M1 a5 oz! b=M b:=λb Y L h3=>by
  rw[mup_ne λz=>Y wJ_];exact fr b (λz=>L (by rw[z];exact g4)) (λz=>h3 (by rw[z];exact g5))
 have up:∀{x:Nat},x<=B->x<=B+1:=λh=>Nat.le_succ_of_le h;have n5:∀b,rl b≠.writ->Bg M1 a5 oz! b=M1 b:=λb Y=>mup_ne λz=>Y wJ_;have tx:∀x,(oz_).txt x=if x=i then U++(s,c,true)::v else W.txt x:=λx=>rfl
 have si:s∉(hi!).map c_:=by rw[<-hl];exact hf i hi
 refine⟨?_,λb dr xh=>⟨ax b oA_ oA_ oA_,xh⟩,?_⟩
 .refine{hA with ob:=?_,d1:=?_,d2:=?_,d3:=?_,d4:=?_,d5:=jV!,d6:=?_,row:=?_,txt:=?_,num:=?_,live:=?_,wr:=?_,hi:=?_,hk:=?_,l1:=up hA.l1,l2:=up hA.l2,l3:=up hA.l3,l4:=up hA.l4,l5:=JB ea_ (Nat.succ_le_succ hA.l5),l6:=up hA.l6,lr:=up hA.lr,lt:=?_}
  .rw[ax o O! O! O!];exact hA.ob
  .rw[ax a1 bT! bT! bT!];exact hA.d1
  .rw[ax a2 aB! aB! aB!];exact hA.d2
  .rw[ax a3 aZ_ aZ_ aZ_];exact hA.d3
  .rw[ax a4 a0! a0! a0!];exact hA.d4
  .rw[ax a6 aB_ aB_ aB_];exact hA.d6
  .intro x J;obtain⟨r',f',p',q1,q2,q3,q4,q5⟩:=hA.row x J;exact⟨r',f',p',q1,q2.keep wM! (ax _ hj! hj! hj!) (ax _ hj_ hj_ hj_),q3,q4,q5⟩
  .intro x J;by_cases z:x=i
   .subst z;refine wM_;rw[tx,k_,<-hb.names,<-hl];exact hr.keep (n5 _ dn!) (n5 _ ei_) (n5 _ ej!)
   .obtain⟨r',f',p',q1,q2,q3,q4,q5⟩:=hA.txt x J;refine⟨r',f',p',q1,?_,q3,q4,q5⟩;rw[tx,HP z];exact q2.keep wM! (ax _ hj! (by rw[q4];simpa using z) hj!) (ax _ hj_ hj_ (by rw[q5];simpa using z))
  .intro x J;obtain⟨q,q1,q2,q3⟩:=hA.num x J;exact⟨q,q1,(ax q fr_ fr_ fr_).trans q2,q3⟩
  .intro x J q hq;rw[tx]at hq;by_cases z:x=i
   .subst z;rw[k_]at hq;obtain q0|q0:=HX.mp hq
    .rw[cW λy=>si (by rw[y];exact IB (IS _ q0))];exact hA.wr x hi q j2_
    .obtain rfl|q0:=HN.mp q0
     .rw[cV]
     .rw[cW λy=>si (by rw[y];exact IB (IA _ q0))];exact hA.wr x hi q j3_
   .rw[HP z]at hq;rw[cW λy=>hf x J (by rw[y];exact IB hq)];exact hA.wr x J q hq
  .intro x J q hq;rw[tx]at hq;by_cases z:x=i
   .subst z;rw[k_]at hq;obtain q0|q0:=HX.mp hq
    .exact hA.hi x hi q j2_
    .obtain rfl|q0:=HN.mp q0
     .cases q:kget k6 s with
      |none=>simp[q]
      |some y=>
       obtain⟨x',Y,L⟩:=hA.hk s b9!;exact absurd L (hf x' Y)
     .exact hA.hi x hi q j3_
   .rw[HP z]at hq;exact hA.hi x J q hq
  .intro s' b6;obtain⟨x,Y,L⟩:=hA.hk s' b6;refine⟨x,Y,?_⟩;rw[tx];by_cases z:x=i
   .subst z;rw[k_];rw[hl]at L;simp only[IU,HV,HX,HN]at L ⊢;obtain L|L:=L
    .exact .inl L
    .exact .inr (.inr L)
   .rw[HP z];exact L
  .intro x J;rw[tx];by_cases z:x=i
   .subst z;rw[k_];have:=hA.lt x hi;rw[hl]at this;simp at this ⊢;omega
   .rw[HP z];exact up jU!
  .intro b dr;by_cases z:b=a5
   .rw[z,mup_same];simp
   .rw[j4!];by_cases z1:b=f
    .rw[z1];exact hr.live.2.1
    .by_cases z2:b=p
     .rw[z2];exact hr.live.2.2
     .rw[fr b z1 z2];exact hA.live b dr
 .refine sE w hi ?_ ej_ ou_
  .have:=w.snd i hi;rw[hl]at this;simp only[IU,HV]at this si ⊢;rw[IY]at this ⊢;rw[HX,ON]at si;refine⟨this.1,IJ.mpr ⟨si.2,j4_⟩,λa ha b dr=>?_⟩;obtain rfl|dr:=HN.mp dr
   .exact λz=>si.1 jA!
   .exact this.2.2 a ha b dr
  .obtain q0|q0:=HX.mp hq
   .exact w.sg i hi q j2_
   .obtain rfl|q0:=HN.mp q0
    .exact hs
    .exact w.sg i hi q j3_
  .obtain q0|q0:=HX.mp hq
   .exact(w.su i hi y hy q j2_ q' a9 e).symm
   .obtain rfl|q0:=HN.mp q0
    .have e':s=q'.1:=e;exact absurd (by rw[e'];exact IB a9) (hf y hy)
    .exact(w.su i hi y hy q j3_ q' a9 e).symm
def FQ(t:Au):WS:=(Ah mI_
 (Ah st!
 (Ah su!
 (Am 5 gs_))))
nonrec def sgn(h n:Int)(q:Nat×Nat):D×D×Bool:=(.tup [aS_,aR!,AR_],.str ⟨#[q.1]⟩,true)
nonrec def eN(q:Nat×Nat):D:=.tup AS_
def wG{h n:Int}:∀(cs:l!) (k0:Nat) (M:Mh) (W:OW) (B:Nat) (U v:ah!) (c7:D) (ka:MK) (N' RW qu:ao!) (R:j!),B+cH_<4000->Cf t M o rl W B->Bs W->i∈W.its->W.txt i=U++v->EA c7 U hi!->Db c7=some ka->
  (∀x∈W.its,∀k':Nat,k0<=k'->D.tup wQ_∉(aH_).map c_)->
  (∀M' ρ,Cf t M' o rl wR_ (B+cH_)->Bs wR_->Fr M rl M' rl->R aK_ M')->
  Ig (Wf 6 7) ae_ (FQ t) ((oC!).map eN) [D_,bq_,K!,en!,some tx,some c7,N',RW,qu] M R
 |[],k0,M,W,B,U,v,c7,ka,N',RW,qu,R,hB,hO,w,hi,hl,hb,hk,hf,hR=>by
  refine⟨trivial,hR M _ ?_ ?_ .refl⟩
  .simp only[QM,MZ,IR,LP,Nat.add_zero];rw[<-hl,sH];exact hO
  .simp only[QM,MZ,IR];rw[<-hl,sH];exact w
 |c::cs,k0,M,W,B,U,v,c7,ka,N',RW,qu,R,hB,hO,w,hi,hl,hb,hk,hf,hR=>by
  rw[NV,HV];refine aJ!;obtain⟨ki,cu⟩:=(hf!).key;obtain⟨a1,a2,a3,a4,a5,a6,k1,k2,k3,k4,k5,k6,hA⟩:=hO;obtain⟨r,f,p,g1,g2,g3,g4,g5⟩:=hA.txt i hi;obtain⟨e3,h3⟩:=hA.d3;obtain⟨e5,h5⟩:=hA.d5;simp only[IE]at hB hR;have l5:k5.length<big:=by have:=hA.l5;unfold big;omega
  have hs:Qb cg_:=wS_;have RX:∀x∈W.its,D.tup j5_∉(aH_).map c_:=λx J=>hf x J k0 y!;have ux:Ao ad_ (.tup [.int (k0:Nat)])=some cg_:=by simp[Ao,big]
  have hm:Dh t.B5 "put_behind" M bb!:=by simp only[Dh,g2.ob,rM.1,and_self]
  have J:∀R',w2 Bt eV_ C_ oD_ M R'=R' bb! M:=by
   intro R';simp[w2,wl,Ay,Gw,hA.ob,oF3,Bt,h3,cu,g1,Dz,Aa]
  show FQ t oE! M _;show Ah mI_ _ oE! M _;have e8:f2 Ao v_ (Aw mI!) oE!=some cg_:=by
   simp[f2,Aa,Aw,Ac,Ag,ux]
  simp only[Ah,Am,wl,e8,List.set_cons_succ,List.set_cons_zero,Bo,Bb,J];refine⟨hm,rfl,?_⟩;refine jL g2 g1_ hk hs.nn (RX i hi) (by have:=hA.lt i hi;simp;omega) (b2v w hi) λM1 hr fr=>?_;have h5':M1 a5=some (.dct k5 e5):=by
   rw[fr a5 (λz=>by have:=hA.r5;rw[z,g4]at this;cases this) (λz=>by have:=hA.r5;rw[z,g5]at this;cases this)];exact h5
  have ob':M1 o=some wb_:=by
   rw[fr o (λz=>by have:=hA.ro;rw[z,g4]at this;cases this) (λz=>by have:=hA.ro;rw[z,g5]at this;cases this)];exact hA.ob
  obtain⟨q1,q2,q3⟩:=b7t (c:=gQ!) (e5:=Gs k5 cg_ e5) hA w hi hl hb hs RX g3 g4 g5 g1 hr fr;have hU:U++wT_::v=(U++[wT_])++v:=by simp
  have:=wG (b:=b) (tx:=tx) (h:=h) (n:=n) cs (k0+1) _ wU_ (B+1) (U++[oE_]) v cg_ _ (some wT!) (some gP_) (some cg_) R
   (a!) wz_ q3 hi (by rw[vS,hU]) (.inr ⟨U,_,rfl,rfl,λz=>RX i hi wV_⟩) g1_
   (λx J k' cx z=>by
    have tx:(wU_).txt x=if x=i then U++oE_::v else W.txt x:=rfl
    rw[tx]at z;by_cases y:x=i
    .subst y;rw[k_]at z;simp only[IU,HV,HX,HN]at z;obtain z|z|z:=z
     .exact hf x hi k' a! wV_
     .simp at z;omega
     .exact hf x hi k' a! (by rw[hl,IU];exact IA _ z)
    .rw[HP y]at z;exact hf x J k' a! z)
   (λM' ρ Y L f'=>hR M' ρ (by
    rw[sF]at Y;rw[show B+(cs.length+1)=B+1+cs.length by omega,NV];simpa[sgn]using Y) (by
    rw[sF]at L;rw[NV];simpa[sgn]using L) (q2.trans f'))
  have hp:∀R',Cb st_ gs_ (wl bL_) oD_ M1 R'=R' (.nx oD_) (Bg M1 a5 (.dct (As k5 cg_ gP_) (Gs k5 cg_ e5))):=by
   intro R';simp[Cb,wl,Ay,Gw,Dz,Aa,fC,ob',oF5,Lh,h5',show Db cg_=some _ from rfl,l5]
  simp only[hp];exact this
def b7v{h n:Int}{s:Str}(hO:aA_)(w:Bs W)(cu:fo_)(RY:Db b=some kb)(hB:hh!)(hs:j7!)
  (hf:∀x∈W.its,∀k':Nat,D.tup wQ_∉(aH_).map c_)
  (hR:∀M',Cf t M' o rl wX_ bq!->Bs wX_->Fr M rl M' rl->R .non M'):
  Ie t [bc_,hk_,i,b,dp_] M R:=by
 have h':=hO;show"!3";simp only[Kz,Ah,Av,Ip,wT,Bb,wl,Ab,Af,Aa];simp[oq!];refine hV hO cu ?_;by_cases c1:i∈W.its
 .simp only[c1,JT]at hR;obtain⟨U,v,e1,e2,e3⟩:=sB b en_ bp_;have hl:hl!<=16:=by simpa[Str.length]using hs
  have hi:Td T_ [D_,bq_,K!,en!,some aT_,en!,none,none,none]=some (s.cps.toList.zipIdx.map eN):=by
   simp[Td,Aa,eN]
  have:=wG (t:=t) (o:=o) (rl:=rl) (b:=b) (tx:=dp_) (h:=h) (n:=n) s.cps.toList 0 M W B U v b kb none none none hb_ a! hO w c1 e1 (by rw[<-e1];exact e3) RY (λx J k' _=>hf x J k')
   (λM' ρ Y L f'=>hR M' (by rw[<-e2]at Y;exact Y.mono a!) (by rw[<-e2]at L;exact L) f')
  simp only[c1,PZ,LH,IW,JK,Bn,Am,wl,Df,Ia,Dz];simp only[Aa,List.getElem?_cons_zero,List.getElem?_cons_succ,Option.join_some,List.set_cons_succ,List.set_cons_zero];simp only[hi];exact this
 .simp only[c1,JK]at hR;have:=hR M oF! w .refl;simpa[c1,Qj]using this
def aV{N:Mh}(hb:N b≠none)(hc:N c=none):b≠c:=λz=>hb (by rw[z];exact hc)
def c3f(h:∀i,(i,x)∉rows):chl rows x=[]:=by
 cases e:chl rows x with
 |nil=>rfl
 |cons a l=>exact absurd (eV.mp (by rw[e];simp:a∈chl rows x)) (h a)
def Ej.rne(h:ea!):r≠f/\r≠p:=by
 obtain⟨kf,ef,kp,ep,hf,hp,K⟩:=h.dc;refine⟨cl_,cl_⟩
 .have:=h.ob;rw[z,hf]at this;cases this
 .have:=h.ob;rw[z,hp]at this;cases this
def b9c{f1 p1 f2 p2:x7!}{k3:i!}{M2 M3 M5:Mh}{e1 e2 e3 e4:Nat}(hA:g9!)(w:Bs W)(hn:oe_)(ht:Io n)(hp:Ew W pl)
  (hg:Qe W.rows n pl b rows')(g1:kget k2 pl=some bb!)(g3:rl r=.rO pl)(g4:rl f=.rF pl)(g5:rl p=.rP pl)
  (R2:Ej t M2 r f p (Qa n b (chl W.rows pl)))(K2:∀c,c≠f->c≠p->M2 c=Bg M a1 (.dct oG! e1) c)
  (z1:M2 r1=none)(z2:M2 f1=none)(z3:M2 p1=none)(R3:Ej t M3 r1 f1 p1 [])(K3:∀c,c≠r1->c≠f1->c≠p1->M3 c=M2 c)
  (y1:Bg M3 a2 hl_ r2=none)(y2:Bg M3 a2 hl_ f2=none)(y3:Bg M3 a2 hl_ p2=none)(R5:Ej t M5 r2 f2 p2 [])(K5:∀c,c≠r2->c≠f2->c≠p2->M5 c=Bg M3 a2 hl_ c)
  (x1:Bg M5 a3 oI! q=none):
  ∃ac,Sa t wZ_ o ac bc! bq! a1 a2 a3 a4 a5 a6 oG! oH! oH_ (As k4 n bS!) k5 k6/\
   Fr M rl wZ_ ac:=by
 have a8:∀{c d:x7!},rl c≠rl d->c≠d:=λh z=>h hm!;have lv:∀c,rl c≠.oth->M c≠none:=hA.live;have A1:M a1≠none:=lv _ bT!;have A2:M a2≠none:=lv _ aB!;have A3:M a3≠none:=lv _ aZ_;have A4:M a4≠none:=lv _ a0!;have AF:M f≠none:=lv _ ei_;have AP:M p≠none:=lv _ ej!;have s2:∀c,M c≠none->M2 c≠none:=λc hc=>by
  by_cases c1:c=f
  .rw[c1];exact R2.live.2.1
  .by_cases c2:c=p
   .rw[c2];exact R2.live.2.2
   .rw[K2 c c1 c2];by_cases c3:c=a1
    .rw[c3,mup_same];simp
    .rw[oI_];exact hc
 have jd:∀c,M c≠none->c≠r1/\c≠f1/\c≠p1:=λc hc=>⟨aV oJ! z1,aV oJ! z2,aV oJ! z3⟩;have s3:∀c,M c≠none->M3 c≠none:=λc hc=>by rw[oK!];exact s2 c hc
 have xk:∀c,M3 c≠none->Bg M3 a2 hl_ c≠none:=λc hc=>by
  by_cases c3:c=a2
  .rw[c3,mup_same];simp
  .rw[oI_];exact hc
 have gn:∀c,M3 c≠none->c≠r2/\c≠f2/\c≠p2:=λc hc=>⟨aV oK_ y1,aV oK_ y2,aV oK_ y3⟩;have gb:∀c,M3 c≠none->M5 c≠none:=λc hc=>by rw[w0_];exact xk c hc
 have WH:∀c,M5 c≠none->Bg M5 a3 oI! c≠none:=λc hc=>by
  by_cases c3:c=a3
  .rw[c3,mup_same];simp
  .rw[oI_];exact hc
 have nq:∀c,M5 c≠none->c≠q:=λc hc=>aV (WH c hc) x1;have a1f:a1≠f:=a8 (by rw[hA.r1,g4];simp);have a1p:a1≠p:=a8 (by rw[hA.r1,g5];simp);have fin:∀c,M c≠none->c≠a1->c≠f->c≠p->c≠a2->c≠a3->c≠a4->Bg eo_ a4 ep! c=M c:=λc hc Y L h3 h4 h5 h6=>by
  rw[hm_,w1!,j8_,w1_,oN_,oK!,K2 c L h3,cd_]
 have uz:∀c,M c≠none->c≠a2->c≠a3->c≠a4->Bg eo_ a4 ep! c=M2 c:=λc hc h4 h5 h6=>by
  rw[hm_,w1!,j8_,w1_,oN_,oK!]
 have WJ:∀c,M3 c≠none->c≠a2->c≠a3->c≠a4->Bg eo_ a4 ep! c=M3 c:=λc hc h4 h5 h6=>by
  rw[hm_,mup_ne (nq c (gb c hc)),j8_,w0_,oN_]
 have xl:∀c,M5 c≠none->c≠a3->c≠a4->Bg eo_ a4 ep! c=M5 c:=λc hc h5 h6=>by
  rw[hm_,w3!,j8_]
 generalize hM8:Bg eo_ a4 ep!=M8 at fin uz WJ xl;have WK:=R3.rne;have WL:=R5.rne;obtain⟨v1,v2,v3⟩:=R3.live;obtain⟨v4,v5,v6⟩:=R5.live
 let ac:Addr->Nw:=λc=>if c=r1 then .rO n else if c=f1 then .rF n else if c=p1 then .rP n else if c=r2 then .tO n else if c=f2 then .tF n else if c=p2 then .tP n else if c=q then .nm n else rl c
 have ar:∀c,M c≠none->ac c=rl c:=λc hc=>by
  have Y:=jd c hc;have L:=gn c j7_;have h3:=nq c (gb c j7_);show w2_=_;rw[HP Y.1,HP Y.2.1,HP Y.2.2,HP L.1,HP L.2.1,HP L.2.2,HP h3]
 have q1:ac r1=.rO n:=HY rfl;have q2:ac f1=.rF n:=by show(if f1=r1 then _ else _)=_;rw[HP (HR WK.1),k_]
 have q3:ac p1=.rP n:=by show(if p1=r1 then _ else _)=_;rw[HP (HR WK.2),HP (HR R3.ne),k_]
 have w1:∀c,M3 c≠none->c≠r2/\c≠f2/\c≠p2:=gn;have q4:ac r2=.tO n:=by show(if r2=r1 then _ else _)=_;rw[HP (HR (oO_).1),HP (HR (oP!).1),HP (HR (oP_).1),k_]
 have q5:ac f2=.tF n:=by show(if f2=r1 then _ else _)=_;rw[HP (HR (oO_).2.1),HP (HR (oP!).2.1),HP (HR (oP_).2.1),HP (HR WL.1),k_]
 have q6:ac p2=.tP n:=by show(if p2=r1 then _ else _)=_;rw[HP (HR (oO_).2.2),HP (HR (oP!).2.2),HP (HR (oP_).2.2),HP (HR WL.2),HP (HR R5.ne),k_]
 have q7:ac q=.nm n:=by
  show(if q=r1 then _ else _)=_;rw[HP (HR (nq _ (gb _ v1))),HP (HR (nq _ (gb _ v2))),HP (HR (nq _ (gb _ v3))),HP (HR (nq _ v4)),HP (HR (nq _ v5)),HP (HR (nq _ v6)),k_]
 have na:∀c,M c≠none->w7_:=jd;have im:∀x,x∈(bc!).its↔x∈W.its\/x=n:=λx=>by simp[Fo]
 have jz:wo W.rows n=W.rows:=by
  show"!a";exact λz=>hn ((w.ri n).mp jK_)
 have nP:¬Ew W n:=λz=>z.elim hn λz=>z.elim ht.nn.2.1 ht.nn.2.2;have WM:∀x,Ew bc! x↔Ew W x\/x=n:=λx=>by unfold Ew;rw[im];constructor<;>(intro z;rcases z with(z|z)|z<;>simp[z])
 have up:∀{x:Nat},x<=B->x<=B+20:=λh=>by omega
 have up1:∀{l:i!} {d v:D},av!<=B->(fe_).length<=B+20:=λh=>JB ea_ a!;have c1:∀c,rl c≠.oth->rl c≠.par->rl c≠.rows->rl c≠.texts->rl c≠.nums->rl c≠.rF pl->rl c≠.rP pl->M8 c=M c:=λc h0 Y L h3 h4 h5 h6=>
  fin c (lv c h0) (λz=>Y oQ_) (λz=>h5 oR!) (λz=>h6 oS!) (λz=>L (by rw[z,hA.r2])) (λz=>h3 (by rw[z,hA.r3])) (λz=>h4 (by rw[z,hA.r4]))
 refine⟨ac,?_,λc hc hr=>⟨fin c hc (a8 (by rw[hr,hA.r1];simp)) (a8 (by rw[hr,g4];simp)) (a8 (by rw[hr,g5];simp)) (a8 (by rw[hr,hA.r2];simp)) (a8 (by rw[hr,hA.r3];simp)) (a8 (by rw[hr,hA.r4];simp)),by rw[ar c hc];exact hr⟩⟩;have e8:∀c,M8 c=Bg eo_ a4 ep! c:=λc=>by rw[hM8]
 have x1':=x1;refine
  {ob:=(c1 o O! O! O! O! O! O! O!).trans hA.ob
   d1:=⟨e1,?d1⟩,d2:=⟨e2,?d2⟩,d3:=⟨e3,?d3⟩,d4:=⟨e4,?d4⟩,d5:=?d5,d6:=?d6
   ro:=(ar o (lv o O!)).trans hA.ro,r1:=(ar a1 A1).trans hA.r1,r2:=(ar a2 A2).trans hA.r2,r3:=(ar a3 A3).trans hA.r3,r4:=(ar a4 A4).trans hA.r4
   r5:=(ar a5 (lv _ aS!)).trans hA.r5,r6:=(ar a6 (lv _ aB_)).trans hA.r6
   p0:=⟨by rw[cW ht.nn.2.1];exact hA.p0.1,by rw[cW ht.nn.2.2];exact hA.p0.2⟩
   pr:=?pr,row:=?row,rown:=?rown,txt:=?txt,txtn:=?txtn,num:=?num,wr:=?wr,hi:=?hi,hk:=?hk
   l1:=up1 hA.l1,l2:=up1 hA.l2,l3:=up1 hA.l3,l4:=up1 hA.l4,l5:=up hA.l5,l6:=up hA.l6,lr:=?lr,lt:=?lt,live:=?live}
 case d1=>rw[uz a1 A1 (a8 (by rw[hA.r1,hA.r2];simp)) (a8 (by rw[hA.r1,hA.r3];simp)) (a8 (by rw[hA.r1,hA.r4];simp)),K2 a1 a1f a1p,mup_same]
 case d2=>
  have h3:=s3 a2 A2;rw[e8,mup_ne (a8 (by rw[hA.r2,hA.r4];simp)),mup_ne (nq a2 (gb a2 h3)),mup_ne (a8 (by rw[hA.r2,hA.r3];simp)),K5 a2 (oT!).1 (oT!).2.1 (oT!).2.2,mup_same]
 case d3=>rw[e8,mup_ne (a8 (by rw[hA.r3,hA.r4];simp)),mup_ne (nq a3 (gb a3 (s3 a3 A3))),mup_same]
 case d4=>rw[e8,mup_same]
 case d5=>rw[c1 a5 aS! aS! aS! aS! aS! aS! aS!];exact hA.d5
 case d6=>rw[c1 a6 aB_ aB_ aB_ aB_ aB_ aB_ aB_];exact hA.d6
 case pr=>
  intro i p' hm;obtain z|z:=hg.mem.mp hm
  .cases z;rw[cV]
  .rw[jz]at z;rw[cW λy=>tJ w hn p' xa_];exact hA.pr i p' z
 case row=>
  intro x J;obtain J|rfl:=(WM x).mp J
  .obtain⟨r',f',p',u1,u2,u3,u4,u5⟩:=hA.row x J;have xn:n≠x:=λz=>nP kb_;have L1:=lv r' ao_;have L2:=lv f' aJ_;have L3:=lv p' aK!;by_cases xo:pl=x
   .subst xo;rw[g1]at u1;cases u1;refine⟨r,f,p,by rw[cW xn];exact g1,?_,(ar r L1).trans g3,(ar f AF).trans g4,(ar p AP).trans g5⟩;show Ej t M8 r f p (chl rows' pl);rw[xb!,jz];exact R2.keep (uz r L1 (a8 (by rw[g3,hA.r2];simp)) (a8 (by rw[g3,hA.r3];simp)) (a8 (by rw[g3,hA.r4];simp))) (uz f AF (a8 (by rw[g4,hA.r2];simp)) (a8 (by rw[g4,hA.r3];simp)) (a8 (by rw[g4,hA.r4];simp))) (uz p AP (a8 (by rw[g5,hA.r2];simp)) (a8 (by rw[g5,hA.r3];simp)) (a8 (by rw[g5,hA.r4];simp)))
   .refine⟨r',f',p',oU!,?_,(ar r' L1).trans u3,(ar f' L2).trans u4,(ar p' L3).trans u5⟩;show Ej t M8 r' f' p' (chl rows' x);rw[hg.chl_ne xo,jz];exact u2.keep xc! (c1 f' aJ_ aJ_ aJ_ aJ_ aJ_ (by rw[u4];simpa using HR xo) aJ_) (c1 p' aK! aK! aK! aK! aK! aK! (by rw[u5];simpa using HR xo))
  .refine⟨r1,f1,p1,cV _ _ _,?_,q1,q2,q3⟩;have np:pl≠x:=λz=>nP (z▸hp);show Ej t M8 r1 f1 p1 (chl rows' x);rw[hg.chl_ne np,jz,c3f λi z=>nP (w.rp _ _ z)];have e:∀c,M3 c≠none->(∀d,M d≠none->d≠c)->M8 c=M3 c:=λc Y L=>WJ c Y (HR (L a2 A2)) (HR (L a3 A3)) (HR (L a4 A4));exact R3.keep (e r1 v1 λd hd=>(oV!).1) (e f1 v2 λd hd=>(oV!).2.1) (e p1 v3 λd hd=>(oV!).2.2)
 case rown=>
  intro x J;rw[WM,ON]at J;rw[cW (HR J.2)];exact hA.rown x J.1
 case txt=>
  intro x J;obtain J|rfl:=(cC_).mp J
  .obtain⟨r',f',p',u1,u2,u3,u4,u5⟩:=hA.txt x J;have xn:n≠x:=λz=>hn kb_;refine⟨r',f',p',oU!,?_,(ar r' (lv r' ao_)).trans u3,(ar f' (lv f' aJ_)).trans u4,(ar p' (lv p' aK!)).trans u5⟩;have e:(bc!).txt x=W.txt x:=by show ft!=_;rw[HP (HR xn)]
   rw[e];exact u2.keep xc! (c1 f' aJ_ aJ_ aJ_ aJ_ aJ_ aJ_ aJ_) (c1 p' aK! aK! aK! aK! aK! aK! aK!)
  .refine⟨r2,f2,p2,cV _ _ _,?_,q4,q5,q6⟩;have e:(ho!).txt x=[]:=by show ho_=_;rw[k_]
   rw[e];have o3:=w1 a3 (s3 a3 A3);have o4:=w1 a4 (s3 a4 A4);exact R5.keep (xl r2 v4 (HR o3.1) (HR o4.1)) (xl f2 v5 (HR o3.2.1) (HR o4.2.1)) (xl p2 v6 (HR o3.2.2) (HR o4.2.2))
 case txtn=>
  intro x J;rw[im,ON]at J;rw[cW (HR J.2)];exact hA.txtn x J.1
 case num=>
  intro x J;obtain J|rfl:=(cC_).mp J
  .obtain⟨q',u1,u2,u3⟩:=hA.num x J;have xn:n≠x:=λz=>hn kb_;refine⟨q',oU!,?_,(ar q' (lv q' ao_)).trans u3⟩;have e:(bc!).num x=W.num x:=by show ft!=_;rw[HP (HR xn)]
   rw[e,c1 q' ao_ ao_ ao_ ao_ ao_ ao_ ao_];exact u2
  .refine⟨q,cV _ _ _,?_,q7⟩;have e:(ho!).num x=wZ!:=by show ho_=_;rw[k_]
   rw[e,e8,xg!,mup_same]
 case wr=>
  intro x J q0 hq;obtain J|rfl:=(cC_).mp J
  .have e:(bc!).txt x=W.txt x:=by show ft!=_;rw[oX!]
   rw[e]at hq;exact hA.wr x J q0 hq
  .have e:(ho!).txt x=[]:=by show ho_=_;rw[k_]
   rw[e]at hq;cases hq
 case hi=>
  intro x J q0 hq;obtain J|rfl:=(cC_).mp J
  .have e:(bc!).txt x=W.txt x:=by show ft!=_;rw[oX!]
   rw[e]at hq;exact hA.hi x J q0 hq
  .have e:(ho!).txt x=[]:=by show ho_=_;rw[k_]
   rw[e]at hq;cases hq
 case hk=>
  intro s hs;obtain⟨x,Y,L⟩:=hA.hk s hs;refine⟨x,(cC_).mpr (.inl Y),?_⟩;have e:(bc!).txt x=W.txt x:=by show ft!=_;rw[HP (λz:x=n=>hn (z▸Y))]
  rw[e];exact L
 case lr=>
  obtain⟨u,v,e,rfl,_⟩:=hg;rw[jz]at e;show(u++(n,pl)::v).length<=_;have:=hA.lr;rw[e]at this;simp at this ⊢;omega
 case lt=>
  intro x J;obtain J|rfl:=(cC_).mp J
  .have e:(bc!).txt x=W.txt x:=by show ft!=_;rw[oX!]
   rw[e];exact up jU!
  .have e:(ho!).txt x=[]:=by show ho_=_;rw[k_]
   rw[e];simp
 case live=>
  intro c hc;have s8:∀c,M5 c≠none->M8 c≠none:=λc hc=>by
   rw[e8];by_cases h6:c=a4
   .rw[h6,mup_same];simp
   .rw[hm_,w3!];exact WH c hc
  by_cases hM:M c=none
  .by_cases u6:c=r1
   .rw[u6];exact s8 _ (gb _ v1)
   .by_cases u7:c=f1
    .rw[u7];exact s8 _ (gb _ v2)
    .by_cases k8:c=p1
     .rw[k8];exact s8 _ (gb _ v3)
     .by_cases k9:c=r2
      .rw[k9];exact s8 _ v4
      .by_cases oy:c=f2
       .rw[oy];exact s8 _ v5
       .by_cases u8:c=p2
        .rw[u8];exact s8 _ v6
        .by_cases u9:c=q
         .rw[u9,e8,xg!,mup_same];simp
         .have:ac c=rl c:=by show w2_=_;rw[HP u6,HP u7,HP k8,HP k9,HP oy,HP u8,HP u9]
          rw[this]at hc;exact absurd hM (lv c hc)
  .exact s8 _ (gb _ (s3 c hM))
end
section
variable{t:Au}{M:Mh}{ρ:Ae}{R:Fl->Mh->Prop}
def a2l{fo fi f:WE}{q:WS}(h:f ρ M λv M1=>fo ρ M1 λd M2=>fi ρ M2 λy M3=>Dz qj! λM4=>q ρ M4 R):Ah (Cb fo fi f) q ρ M R:=by exact h
def b8j{f:WE}{q:WS}(h:xh!):Ah (Bo f) q ρ M R:=h
def qC{o:x7!}{fs:aV!}{kvs:i!}{ep:Nat}{fo fi:e!}{Q:bf_}(h0:fo ρ=some N_)(Y:fi ρ=some y)(hM:M o=some hp_)(J:fs.lookup x=some E!)(hp:bW!)(hk:cl!)(hl:dz!)
  (hQ:Q hY!):Ay C x dq_ ρ M (λd M2=>wl fi ρ M2 λy M3=>Dz qj! λM4=>Q M4):=by
 have e:Lh M E! y v=some hY!:=by simp[Lh,hp,hk,hl]
 simp only[Ay,wl,h0,Gw,hM,JT,J,Dz,Y,e];exact hQ
def d3e{g:WF}{fo:WE}{f1 f2:e!}{K:s_}(h0:∀K,fo ρ M K=K d M)(ho:lh!)(Y:fu!)(L:hq!)(k:g [d,a,b] M K):Bb C m 3 g fo xj_ ρ M K:=by unfold Bb Ab Af;rw[h0];simp only[wl,Y,L];exact oY!
def Zr(t:Au):WS:=Ah so_
 (Ah so!
 (Ah yO_
 (Ah yP!
 sp_)))
end
section
variable{t:Au}{M:Mh}{o:x7!}{rl:Addr->Nw}{W:OW}{B:Nat}{R:D->Mh->Prop}
def c8q(hO:aA_)(w:Bs W)(hn:oe_)(ht:Io n)(km:dr!)(RY:Db b=some kb)(hB:hh!)(hg:Qe W.rows n cI_ b rows')
  (hR:∀M' ac,Cf t M' o ac bc! bq!->Fr M rl M' ac->R .non M'):Jr t [bc_,n,a,b] M R:=by
 have h':=hO;obtain⟨a1,a2,a3,a4,a5,a6,k1,k2,k3,k4,k5,k6,hA⟩:=h';obtain⟨e1,Y⟩:=hA.d1;obtain⟨e2,L⟩:=hA.d2;obtain⟨e3,h3⟩:=hA.d3;obtain⟨e4,h4⟩:=hA.d4;obtain⟨kn,gc⟩:=ht.key;have a8:∀{c d:x7!},rl c≠rl d->c≠d:=λh z=>h hm!;have lv:∀c,rl c≠.oth->M c≠none:=hA.live;have L1:oj_<big:=by have:=hA.l1;unfold big;omega
 have L2:k2.length<big:=by have:=hA.l2;unfold big;omega
 have L3:k3.length<big:=by have:=hA.l3;unfold big;omega
 have L4:k4.length<big:=by have:=hA.l4;unfold big;omega
 have hp:Ew W cI_:=by split;assumption;exact .inr fc_
 refine j_;have hm:Dh t.B4 "has" M N_:=hA.noOb oM1;generalize hK:xk_=KK;have ii:∀ρ' M',R .non M'->KK cS! M':=λρ' M' z=>by rw[<-hK];exact z
 have key:∀pl,pl=cI_->Zr t fu_ M KK:=by
  intro pl epl;rw[<-epl]at hg hp;obtain⟨r,f,p,g1,g2,g3,g4,g5⟩:=hA.row pl hp;obtain⟨kpl,hkpl⟩:=oB w hp;refine a2l ?_;have f4:Aa 4 fu_=some pl:=rfl;have mi:Aa 1 fu_=some n:=rfl;have f3:Aa 3 fu_=some b:=rfl;have f0:Aa 0 fu_=some N_:=rfl;simp only[wl,f4];refine qC f0 mi hA.ob oF1 Y gc L1 ?_;refine b8j ?_;have n1:∀c,rl c≠.par->Bg M a1 oZ! c=M c:=λc hc=>mup_ne λz=>hc oQ_;have va:∀R',w2 Bt cw! a4_ fu_ oZ_ R'=R' bb! oZ_:=by
   intro R';simp[w2,wl,Ay,Gw,n1 o O!,n1 a2 aB!,hA.ob,oF2,Bt,L,hkpl,g1,Dz,Aa]
  have vb:=g2.keep (M':=Bg M a1 oZ!) (n1 r dn!) (n1 f ei_) (n1 p ej!);have zc:Dh t.B5 "put_behind" oZ_ bb!:=by simp only[Dh,vb.ob,rM.1,and_self]
  refine d3e va zc mi f3 ?_;refine jL vb gc RY ht.nn.1 (λz=>tJ w hn pl o0!) (by have:=a5o (W:=W) (x:=pl);have:=hA.lr;omega) (wF w) λM2 R2 K2=>?_;have m2:∀c,rl c≠.par->rl c≠.rF pl->rl c≠.rP pl->M2 c=M c:=λc Y L h3=>(K2 c (λz=>L oR!) (λz=>h3 oS!)).trans (n1 c Y);have qg:M2 o=_:=(m2 o O! O! O!).trans hA.ob;have WN:M2 a2=_:=(m2 a2 aB! aB! aB!).trans L;have WO:M2 a3=_:=(m2 a3 aZ_ aZ_ aZ_).trans h3;have WQ:M2 a4=_:=(m2 a4 a0! a0! a0!).trans h4;refine a2l ?_;refine qN λr1 f1 p1 M3 z1 z2 z3 _ _ R3 K3=>?_;have m3:∀c,M2 c≠none->M3 c=M2 c:=λc hc=>K3 c (aV hc z1) (aV hc z2) (aV hc z3);have RZ:=(m3 o (by rw[qg];simp)).trans qg;have d32:=(m3 a2 (by rw[WN];simp)).trans WN;have WR:=(m3 a3 (by rw[WO];simp)).trans WO;have WU:=(m3 a4 (by rw[WQ];simp)).trans WQ;have oa2:o≠a2:=a8 (by rw[hA.ro,hA.r2];simp);have WV:o≠a3:=a8 (by rw[hA.ro,hA.r3];simp);have SA:a3≠a2:=a8 (by rw[hA.r3,hA.r2];simp);have a42:a4≠a2:=a8 (by rw[hA.r4,hA.r2];simp);have WW:a4≠a3:=a8 (by rw[hA.r4,hA.r3];simp);refine qC f0 mi RZ oF2 d32 gc L2 ?_;refine a2l ?_;refine qN λr2 f2 p2 M5 y1 y2 y3 _ _ R5 K5=>?_;have m5:∀c,c≠a2->M3 c≠none->M5 c=M3 c:=λc h0 hc=>by
   have q:Bg M3 a2 (.dct oH! (Gs k2 n e2)) c≠none:=by rw[mup_ne h0];exact hc
   rw[K5 c (aV q y1) (aV q y2) (aV q y3),mup_ne h0]
  have SC:=(m5 o oa2 (by rw[RZ];simp)).trans RZ;have d53:=(m5 a3 SA (by rw[WR];simp)).trans WR;have WX:=(m5 a4 a42 (by rw[WU];simp)).trans WU;refine qC f0 mi SC oF3 d53 gc L3 ?_;unfold Cb;refine⟨R!,⟨R!,R!,R!⟩,λq x1=>?_⟩;have q0:o≠q:=aV (N:=xn!) (by rw[mup_ne WV,SC];simp) x1;have q4:a4≠q:=aV (N:=xn!) (by rw[mup_ne WW,WX];simp) x1;obtain⟨ac,F1,F2⟩:=b9c (e1:=Gs k1 n e1) (e2:=Gs k2 n e2) (e3:=Gs k3 n e3) (e4:=Gs k4 n e4) hA w hn ht hp hg g1 g3 g4 g5 R2 K2 z1 z2 z3 R3 K3 y1 y2 y3 R5 K5 x1;have:=hR _ ac ⟨_,_,_,_,_,_,_,_,_,_,_,_,F1⟩ F2;exact qC (kvs:=k4) (ep:=e4) f0 mi ((mup_ne q0).trans ((mup_ne WV).trans SC)) oF4 ((mup_ne q4).trans ((mup_ne WW).trans WX)) gc L4 (ii _ _ this)
 show Ah sm_ (Zr t) xo_ M KK;have hh:∀K:D->Mh->Prop,Cd t [bc_,a] M K->Bb t.B4 "has" 2 gq! h_ dR! xo_ M K:=λK vc=>⟨hm,rfl,vc⟩;unfold Ah Am Wz wT;refine hh _ (tX hO km ?_);by_cases c:Ew W a
 .rw[IV c];exact key a (by rw[HY c])
 .rw[IF c];exact key binn (by rw[HP c])
def vX(hO:aA_)(w:Bs W)(cu:fo_)(gj:op_)(oj:Db s=some ks)(hB:hh!)
  (hR:∀M',(eh_->∀rows',Qe W.rows i x s rows'->Cf t M' o rl {W with rows:=rows'} bq!)->(¬eh_->Cf t M' o rl W bq!)->Fr M rl M' rl->R .non M'):
  Gp t [bc_,i,x,s] M R:=by
 have h':=hO;obtain⟨a1,a2,a3,a4,a5,a6,k1,k2,k3,k4,k5,k6,hA⟩:=h';obtain⟨e1,Y⟩:=hA.d1;obtain⟨e2,L⟩:=hA.d2;refine j_;show Ah (Av _ _ _) _ o0_ M _;simp only[Ah,Av,Ip,wT,Bb,wl,Ab,Af,Aa,List.getElem?_cons_zero,List.getElem?_cons_succ,Option.join_some];refine⟨hA.noOb oM5,rfl,?_⟩;refine a9l hO w cu gj λb hb=>?_;cases b with
 |false=>
  have hc:¬eh_:=λz=>by have:=hb.mpr z;cases this
  have:=hR M (λz=>absurd z hc) (λ_=>hO.mono a!) .refl;simpa[Qj]using this
 |true=>
  have hc:=hb.mp rfl;obtain⟨hi,J,hw⟩:=hc;obtain⟨p0,ff⟩:=b0p w hi;have WY:Ew W p0:=w.rp _ _ ff;obtain⟨r0,f0,q0,u1,u2,u3,u4,u5⟩:=hA.row p0 WY;obtain⟨r,f,p,g1,g2,g3,g4,g5⟩:=hA.row x J;obtain⟨F',hkp0⟩:=oB w WY;obtain⟨uu,vv,c1,c2⟩:=b2g w.rnd ff;have a8:∀{c d:x7!},rl c≠rl d->c≠d:=λh z=>h hm!;have lr:=hA.lr;have hx0:∀R',w2 Bt cw! iJ_ o0_ M R'=R' (.fn r0) M:=by
   intro R';simp[w2,wl,Ay,Gw,hA.ob,oF1,oF2,Bt,Y,L,cu,hA.pr i p0 ff,hkp0,u1,Dz,Aa]
  have WZ:Dh t.B5 "take_out" M (.fn r0):=by simp only[Dh,u2.ob,rM.2.1,and_self]
  simp only[Bool.not_true,Bool.false_eq_true,if_false,Bn,Bo,Bb,hx0];refine⟨WZ,rfl,?_⟩;refine a6b u2 c1 cu (by have:=a5o (W:=W) (x:=p0);omega) (wF w) λM1 R1 K1=>?_;rw[<-c2]at R1;have m1:∀c,rl c≠.rF p0->rl c≠.rP p0->M1 c=M c:=λc Y L=>K1 c (λz=>Y (by rw[z,u4])) (λz=>L (by rw[z,u5]));have wz:=(m1 o O! O!).trans hA.ob;have d11:=(m1 a1 bT! bT!).trans Y;have d12:=(m1 a2 aB! aB!).trans L;have vb:Ej t M1 r f p (chl kg! x):=by
   by_cases e:p0=x
   .subst e;rw[u1]at g1;cases g1;obtain⟨z1,z2⟩:f=f0/\p=q0:=by
     have:=u2.ob;rw[g2.ob]at this;simp at this;exact this
    rw[z1,z2];exact R1
   .rw[a1u λz=>e xq!];exact g2.keep (m1 r dn! dn!) (m1 f (by rw[g4];simpa using Ne.symm e) ei_) (m1 p ej! (by rw[g5];simpa using Ne.symm e))
  have va:∀R',w2 Bt cw! C_ o0_ M1 R'=R' bb! M1:=by
   intro R';simp[w2,wl,Ay,Gw,wz,oF2,Bt,d12,gj,g1,Dz,Aa]
  have xp:Dh t.B5 "put_behind" M1 bb!:=by simp only[Dh,vb.ob,rM.1,and_self]
  simp only[va];refine⟨xp,rfl,?_⟩;have lw:(chl kg! x).length<=cc!:=by
   have a:=(b5f (rows:=wo W.rows i) (x:=x)).length_le;have b:=(xs!).length_le;simp at a b;omega
  refine jL vb cu oj (hf!).nn.1 (λz=>(kQ.mp o0!).2 rfl) a! (λc hc=>wF w c (eV.mpr (kQ.mp (eV.mp hc)).1)) λM2 R2 K2=>?_;have m2:∀c,rl c≠.rF x->rl c≠.rP x->M2 c=M1 c:=λc Y L=>K2 c (λz=>Y oR!) (λz=>L oS!);have qg:=(m2 o O! O!).trans wz;have d21:=(m2 a1 bT! bT!).trans d11;have L1:oj_<big:=by have:=hA.l1;unfold big;omega
  have fin:R .non (Bg M2 a1 o2_):=by
   have n3:∀c,rl c≠.par->Bg M2 a1 o2_ c=M2 c:=λc hc=>mup_ne λz=>hc oQ_;have aw:∀c,rl c≠.par->rl c≠.rF x->rl c≠.rP x->rl c≠.rF p0->rl c≠.rP p0->Bg M2 a1 o2_ c=M c:=λc Y L h3 h4 h5=>(n3 c Y).trans ((m2 c L h3).trans (m1 c h4 h5));refine hR _ (λ_ rows' hg=>⟨a1,a2,a3,a4,a5,a6,As k1 i x,k2,k3,k4,k5,k6,?_⟩) (λz=>absurd ⟨hi,J,hw⟩ z) λc hc hr=>⟨aw c ei! ei! ei! ei! ei!,hr⟩;have up:∀{x:Nat},x<=B->x<=B+20:=λh=>by omega
   have xi:i≠root/\i≠binn:=⟨(hf!).nn.2.1,(hf!).nn.2.2⟩;refine{hA with ob:=?_,d1:=jV!,d2:=?_,d3:=?_,d4:=?_,d5:=?_,d6:=?_,p0:=⟨by rw[cW xi.1];exact hA.p0.1,by rw[cW xi.2];exact hA.p0.2⟩,pr:=?_,row:=?_,txt:=?_,num:=?_,l1:=Nat.le_trans ea_ (by have:=hA.l1;omega),l2:=up hA.l2,l3:=up hA.l3,l4:=up hA.l4,l5:=up hA.l5,l6:=up hA.l6,lr:=?_,lt:=λy hy=>up (hA.lt y hy),live:=?_}
   .rw[aw o O! O! O! O! O!];exact hA.ob
   .rw[aw a2 aB! aB! aB! aB! aB!];exact hA.d2
   .rw[aw a3 aZ_ aZ_ aZ_ aZ_ aZ_];exact hA.d3
   .rw[aw a4 a0! a0! a0! a0! a0!];exact hA.d4
   .rw[aw a5 aS! aS! aS! aS! aS!];exact hA.d5
   .rw[aw a6 aB_ aB_ aB_ aB_ aB_];exact hA.d6
   .intro a b hm;obtain z|z:=hg.mem.mp hm
    .cases z;rw[cV]
    .obtain⟨z1,z2⟩:=kQ.mp z;rw[cW (Ne.symm z2)];exact hA.pr a b z1
   .intro y hy;by_cases e:x=y
    .subst e;refine wM_;rw[xb!];exact R2.keep (n3 r dn!) (n3 f ei_) (n3 p ej!)
    .rw[hg.chl_ne e];by_cases e':p0=y
     .subst e';refine⟨r0,f0,q0,u1,?_,u3,u4,u5⟩;exact R1.keep ((n3 r0 ao_).trans (m2 r0 ao_ ao_)) ((n3 f0 aJ_).trans (m2 f0 (by rw[u4];simpa using Ne.symm e) aJ_)) ((n3 q0 aK!).trans (m2 q0 aK! (by rw[u5];simpa using Ne.symm e)))
     .obtain⟨r',f',p',v1,v2,v3,v4,v5⟩:=hA.row y hy;refine⟨r',f',p',v1,?_,v3,v4,v5⟩;rw[a1u λz=>e' xq!];exact v2.keep xv! (aw f' cJ! (by rw[v4];simpa using Ne.symm e) cJ! (by rw[v4];simpa using Ne.symm e') cJ!) (aw p' cK! cK! (by rw[v5];simpa using Ne.symm e) cK! (by rw[v5];simpa using Ne.symm e'))
   .intro y hy;obtain⟨r',f',p',v1,v2,v3,v4,v5⟩:=hA.txt y hy;exact⟨r',f',p',v1,v2.keep xv! (aw f' cJ! cJ! cJ! cJ! cJ!) (aw p' cK! cK! cK! cK! cK!),v3,v4,v5⟩
   .intro y hy;obtain⟨q,v1,v2,v3⟩:=hA.num y hy;exact⟨q,v1,(aw q bG! bG! bG! bG! bG!).trans v2,v3⟩
   .obtain⟨u,v,e,rfl,_⟩:=hg;have b:=(xs!).length_le;rw[e]at b;simp at b ⊢;omega
   .intro c hc;by_cases y0:c=a1
    .rw[y0,mup_same];simp
    .rw[mup_ne y0];by_cases y1:c=f
     .rw[y1];exact R2.live.2.1
     .by_cases y2:c=p
      .rw[y2];exact R2.live.2.2
      .rw[K2 c y1 y2];by_cases y3:c=f0
       .rw[y3];exact R1.live.2.1
       .by_cases y4:c=q0
        .rw[y4];exact R1.live.2.2
        .rw[K1 c y3 y4];exact hA.live c hc
  simpa[Cb,wl,Ay,Gw,Dz,Aa,qg,oF1,Lh,d21,cu,L1]using fin
end
end K24
namespace K24
open PySem L2 DL
nonrec def Au.nd(t:Au):Prop:=[t.A0,t.A5,t.A6,t.A7,t.A8,t.A9,t.B0,t.B1,t.B2].Nodup
def Ly(c:Nat):Bool:=decide (32<=c)&&decide (c<=126)&&!(c==37)
def Uh(s:Str):Bool:=decide (aC!<=1000)&&s.cps.toList.all Ly
def c9r(a c:Nat):Sc ⟨#[a]⟩ ar!=decide (a<=c):=by
 unfold Sc;simp only[List.cons_lt_cons_iff,List.not_lt_nil,and_false,KY];by_cases h:c<a
 .simp[h]
 .simp[h];omega
def b6x:(" ":Str)=⟨#[32]⟩:=by decide+kernel
def b6w:("~":Str)=⟨#[126]⟩:=by decide+kernel
def d0i(c:Nat):Hf [gQ!]=some (.bl (Ly c)):=by
 push_cast[Hf,Sn,Yv,b6x,b6w,c9r,Str.length,Ly]
 by_cases Y:32<=c<;>by_cases L:c<=126<;>simp[Y,L];rw[LS];simp;omega
def yV(ρ:Ae)(oo:ρ=cK_):∀(cs:l!),cs.all Ly=true->
  Fp E_ a3_ iB! ρ (cs.map λc=>.str ar!)=some kh_
 |[],_=>rfl
 |c::cs,h=>by
  rw[NI,IZ]at h;have ih:=yV ρ oo cs h.2;subst oo;simp only[HV,Fp,ih];simp[Bd,f1,Ac,Aa,Ag,d0i,h.1]
def zA:∀(cs:l!),Nn xx_=some xy!
 |[]=>rfl
 |c::cs=>by simp only[HV,Nn,zA cs,OT]
def a5d(a b:Str):En (.str a) (.str b)=f3!:=by unfold En;rfl
def c6g(a b:Int):En (.int a) (.int b)=f3!:=by unfold En;rfl
def a9p(s:Str):∀xs:List Str,xz!=xs.any (·==s)
 |[]=>rfl
 |x::xs=>by rw[HV,MC,MC,a9p s xs,a5d]
def c5w(s:Str)(xs:q!):Vh false aT_ (.tup ki_)=some (.bl (xs.any (·==s))):=by
 have h:(ki_).all La=true:=by simp[LG,La]
 show(if La aT_&&(ki_).all La then some (D.bl xz!)else none)=_;rw[h,a9p];rfl
def uX:(Str.ofString "put"==Str.ofString "undo")=false:=by decide+kernel
def uY:(Str.ofString "put"==Str.ofString "redo")=false:=by decide+kernel
def jH:(Str.ofString "move"==Str.ofString "put")=false:=by decide+kernel
def a4o:(Str.ofString "move"==Str.ofString "undo")=false:=by decide+kernel
def a4p:(Str.ofString "move"==Str.ofString "redo")=false:=by decide+kernel
def jI:(Str.ofString "drop"==Str.ofString "put")=false:=by decide+kernel
def iL:(Str.ofString "drop"==Str.ofString "move")=false:=by decide+kernel
def qZ:(Str.ofString "drop"==Str.ofString "undo")=false:=by decide+kernel
def rA:(Str.ofString "drop"==Str.ofString "redo")=false:=by decide+kernel
def kX:(Str.ofString "write"==Str.ofString "put")=false:=by decide+kernel
def jR:(Str.ofString "write"==Str.ofString "move")=false:=by decide+kernel
def jS:(Str.ofString "write"==Str.ofString "drop")=false:=by decide+kernel
def a4n:(Str.ofString "write"==Str.ofString "cut")=false:=by decide+kernel
def a4m:(Str.ofString "write"==Str.ofString "set")=false:=by decide+kernel
def zU:(Str.ofString "write"==Str.ofString "undo")=false:=by decide+kernel
def zV:(Str.ofString "write"==Str.ofString "redo")=false:=by decide+kernel
def pK:(Str.ofString "cut"==Str.ofString "put")=false:=by decide+kernel
def mY:(Str.ofString "cut"==Str.ofString "move")=false:=by decide+kernel
def mZ:(Str.ofString "cut"==Str.ofString "drop")=false:=by decide+kernel
def kZ:(Str.ofString "cut"==Str.ofString "write")=false:=by decide+kernel
def b1s:(Str.ofString "cut"==Str.ofString "set")=false:=by decide+kernel
def a8c:(Str.ofString "cut"==Str.ofString "undo")=false:=by decide+kernel
def a8d:(Str.ofString "cut"==Str.ofString "redo")=false:=by decide+kernel
def pI:(Str.ofString "set"==Str.ofString "put")=false:=by decide+kernel
def mW:(Str.ofString "set"==Str.ofString "move")=false:=by decide+kernel
def mX:(Str.ofString "set"==Str.ofString "drop")=false:=by decide+kernel
def kY:(Str.ofString "set"==Str.ofString "write")=false:=by decide+kernel
def pJ:(Str.ofString "set"==Str.ofString "cut")=false:=by decide+kernel
def a7z:(Str.ofString "set"==Str.ofString "undo")=false:=by decide+kernel
def a8a:(Str.ofString "set"==Str.ofString "redo")=false:=by decide+kernel
def uT:(Str.ofString "undo"==Str.ofString "put")=false:=by decide+kernel
def qU:(Str.ofString "undo"==Str.ofString "move")=false:=by decide+kernel
def qV:(Str.ofString "undo"==Str.ofString "drop")=false:=by decide+kernel
def oS:(Str.ofString "undo"==Str.ofString "write")=false:=by decide+kernel
def uU:(Str.ofString "undo"==Str.ofString "cut")=false:=by decide+kernel
def a7y:(Str.ofString "undo"==Str.ofString "set")=false:=by decide+kernel
def uV:(Str.ofString "redo"==Str.ofString "put")=false:=by decide+kernel
def qX:(Str.ofString "redo"==Str.ofString "move")=false:=by decide+kernel
def qY:(Str.ofString "redo"==Str.ofString "drop")=false:=by decide+kernel
def oT:(Str.ofString "redo"==Str.ofString "write")=false:=by decide+kernel
def uW:(Str.ofString "redo"==Str.ofString "cut")=false:=by decide+kernel
def a8b:(Str.ofString "redo"==Str.ofString "set")=false:=by decide+kernel
def qW:(Str.ofString "redo"==Str.ofString "undo")=false:=by decide+kernel
def gU(a b:Str):Ba (.str a) (.str b)=some (.bl f3!):=by simp[Ba,Bi,Il,a5d]
def in2(k a b:Str):Vh false U! o7!=some (.bl o7_):=by have:=c5w k aq!;simpa only[HV,MZ,MC,List.any_nil,Bool.or_false]using this
def wC(a b:Int):Ba (.int a) (.int b)=some (.bl f3!):=by simp[Ba,Bi,Il,c6g]
abbrev scr(ns:w_):D:=.lst jw!
def a5r{α:Type}{xs:P_}{i:Int}(h0:0<=i)(Y:i<m_):∃x,Dc xs i=some x/\x∈xs:=by refine⟨xs[i.toNat]' a!,?_,KS _⟩;unfold Dc Ea;rw[HY h0,HY Y];simp
def c6w(ns:w_)(k:Int):∃c,On [ds_,hv!]=some (.int c):=by
 cases ns with
 |nil=>exact⟨0,by push_cast[On,Tb,scr,Va]⟩
 |cons n r=>
  have hp:(0:Int)<hv_+1:=by omega
  obtain⟨x,e,J⟩:=a5r (xs:=xC!) (i:=k%(hv_+1)) (KR _ a!) (by simpa using KD k hp);obtain⟨c,_,rfl⟩:=IH.mp J;refine⟨c,?_⟩;have e':Ak (.lst xC!) (.int (k%(hv_+1)))=some (.int c):=e;simp only[HV]at e';simp[On,Tb,scr,Ci,Bl,sSeq,Gi,Cs,Aa,Va,f2,f1,Ac,Ag,Bp,Bz,Dy,hp,e']
def iD(ns:w_){k:Int}:∃m,Bv [ds_,hv!]=some do!/\0<=m/\m<4294967231:=by obtain⟨c,hc⟩:=c6w ns k;refine⟨_,by push_cast[Bv,Xp,hc,Ui];rfl,KR _ b_,KD _ b_⟩
def nS{n:Int}(h:xs≠[]):∃x,Du [.lst xs,aR!]=some x/\x∈xs:=by
 have hl:0<m_:=List.length_pos_iff.mpr h;have hp:(0:Int)<jn!:=by omega
 obtain⟨x,e,J⟩:=a5r (xs:=xs) (i:=n%jn!) (KR _ a!) (KD n hp);refine⟨x,?_,J⟩;have e':Ak T! (.int (n%jn!))=some x:=e;simp[Du,Vz,Ci,Bl,Aa,f2,f1,Ac,Ag,Bp,Bz,Dy,hp,e',hl]
def qS{bnd:ai_}{q:aU!}(P:Nat->Ae->Prop):∀(ds:c!) (i:Nat) (ρ:Ae),P i ρ->
  (∀(j:Nat) (d:D) (ρ:Ae),ds[j]?=some d->P (i+j) ρ->∃ai bi,bnd d ρ=some ai/\q ai=some (.nx bi)/\P (i+j+1) bi)->
  ∃ρ',Rl bnd q ds ρ=some cS!/\P (i+h!) ρ'
 |[],i,ρ,h,_=>⟨ρ,rfl,h⟩
 |d::ds,i,ρ,h,hs=>by
  obtain⟨ai,bi,e1,e2,L⟩:=hs 0 d ρ rfl h;obtain⟨ρ',e3,h3⟩:=qS P ds a5! bi L λj d ρ hd hp=>by
   have:=hs (j+1) d ρ (by simpa using hd) (by rw[show i+(j+1)=i+1+j by omega];exact hp);rw[show i+(j+1)+1=i+1+j+1 by omega]at this;exact this
  refine⟨ρ',?_,by rw[IE,show i+(ds.length+1)=i+1+ds.length by omega];exact h3⟩;simp[Rl,e1,e2,e3]
def nJ{bnd:ai_}{ft:ah_}{fe:e!}{ρ:Ae}(R:D->Prop):∀(ds:c!),(∀d∈ds,∃ai b,bnd d ρ=some ai/\ft ai=some b/\(b=true->∃y,fe ai=some y/\R y))->
  ∃ys,Fp bnd ft fe ρ ds=some ys/\ad!<=h!/\∀y∈ys,R y
 |[],_=>⟨[],rfl,IM _,λy hy=>by cases hy⟩
 |d::ds,h=>by
  obtain⟨ai,b,e1,e2,hy⟩:=h d HQ;obtain⟨ys,e3,hl,hr⟩:=nJ R ds λx J=>h x aU_
  cases b with
  |false=>exact⟨ys,by simp[Fp,e1,e2,e3],er_,hr⟩
  |true=>
   obtain⟨y,e4,r4⟩:=hy rfl;refine⟨y::ys,by simp[Fp,e1,e2,e3,e4],er_,lr!⟩;obtain rfl|hz:=HN.mp hz
   .exact r4
   .exact hr z hz
def vE{bnd:ai_}{fe:e!}{ρ:Ae}:∀{ds ys:c!},Fp bnd a3_ fe ρ ds=some ys->ad!=h!
 |[],ys,e=>by cases e;rfl
 |d::ds,ys,e=>by
  unfold Fp at e;obtain⟨ai,e1,e⟩:=HJ.mp e;simp only[MN,JT]at e;obtain⟨y,e3,e⟩:=HJ.mp e;obtain⟨zs,e4,rfl⟩:=HU.mp e;simp[vE e4]
def NameG(x:D):Prop:=∃a b,x=.tup vT_/\0<=a/\a<16/\1<=b/\b<=2000
def Cy(x:D):Prop:=x=.str "root"\/x=.str "bin"\/NameG x
def Mz(x:D):Prop:=x=.non\/NameG x
def Xx(x:D):Prop:=∃a b c,x=.tup vU!/\0<=a/\a<16/\1<=b/\b<=2000/\0<=c/\c<=15
def Lc(x:D):Prop:=x=.non\/Xx x
inductive DG:D->Prop
 |put {a b:D}:Cy a->Mz b->DG es!
 |move {a b c:D}:Cy a->Cy b->Mz c->DG hw_
 |drop {a:D}:Cy a->DG hx!
 |write {a b:D} {s:Str}:Cy a->Lc b->Uh s=true->1<=aC!->aC!<=16->DG fw_
 |cut {a:D} {x y z m:Int}:Cy a->Xx ek_->1<=m->z+m<=16->DG es_
 |set {a:D} {p n:Int}:Cy a->0<=p->p<=3->n.natAbs<10 ^ 60->DG (.tup [kp!,a,.int p,aR!])
 |undo {a:D}:NameG a->DG (.tup [et_,a])
 |redo {a:D}:NameG a->DG (.tup [kq!,a])
def Vk(o:D):Prop:=∃h n tm d,o=.tup [aS_,aR!,.int tm,d]/\0<=h/\h<16/\1<=n/\n<=2000/\DG d
def a9b(h:DG d):∃k r,d=.tup ci_/\(k="write"->∃a b s,r=[a,b,dp_]/\aC!<=16):=by
 cases h with
 |write _ _ _ _ h5=>exact⟨_,_,rfl,λ_=>⟨_,_,_,rfl,h5⟩⟩
 |_=>exact⟨_,_,rfl,λz=>absurd z k!⟩
def c1u{ops:c!}(h:kq_)(hl:kr_):∃its,Mf [.lst ops]=some pa_/\3<=gT_/\gT_<=200/\∀x∈its,Cy x:=by
 obtain⟨ys,e,l,hr⟩:=nJ (ρ:=cK_) (bnd:=Bd 0) (ft:=fT ne!) (fe:=Aw gG!)
  (xI_) ops (by
   intro o ho;obtain⟨h',n,tm,d,rfl,b1,b2,b3,b4,hd⟩:=h o ho;obtain⟨k,r,rfl,_⟩:=a9b hd;refine⟨_,_,rfl,by push_cast[gU];rfl,λ_=>⟨_,by push_cast,xJ!⟩⟩)
 have hc:Hx 1 [] eZ_ E_ (fT ne!) (Aw gG!) [aC_]=some ba_:=by
  show xK_;rw[dt!,e];rfl
 have a1:Ao (.lst [fx!]) ba_=some xL!:=by
  show(if 1+ad!<=big then some (D.lst ([fx!]++ys))else none)=_;rw[dt!];rfl
 have a2:Ao xL! (.lst kt!)=some (.lst (.str "root"::(ys++kt!))):=by
  show(if ad!+1+2<=big then some (D.lst (.str "root"::ys++kt!))else none)=_;rw[dt!];rfl
 refine⟨.str "root"::(ys++kt!),by simp[Mf,Ud,Ci,Bl,f2,fC,hc,a1,a2],H!,er_,aG_⟩;simp at J;obtain rfl|J|rfl|rfl:=J
 .exact c0!
 .exact .inr (.inr (hr x J))
 .exact .inr G!
 .exact .inr xO!
def b8i{ops:c!}(h:kq_)(hl:kr_):∃ss,Me [.lst ops]=some (.lst ss)/\ss≠[]/\∀x∈ss,Lc x:=by
 let P:Nat->Ae->Prop:=λi ρ=>∃c8 x y,ρ=[aC_,pc_,x,y]/\c8≠[]/\pd!<=2+16*i/\∀z∈c8,Lc z
 obtain⟨ρ',e,c8,x,y,rfl,f0,_,hf⟩:=qS (bnd:=Cg 2) (q:=Gi tF! tI! Cs)
  P ops 0 [aC_,some (.lst [.non,.tup [.int 9,.int 9,.int 3]]),none,none] ⟨_,_,_,rfl,by simp,by simp,by
   intro z hz;simp at hz;obtain rfl|rfl:=hz
   .exact c0!
   .exact .inr ⟨9,9,3,rfl,R!,R!,R!,R!,R!,R!⟩⟩ (by
  rintro j d ρ hd ⟨c8,x,y,rfl,f0,fl,hf⟩;have hj:j<kr!:=(IL.mp hd).1;obtain⟨h',n,tm,d',rfl,b1,b2,b3,b4,hdg⟩:=h d (NP hd);obtain⟨k,r,rfl,hw⟩:=a9b hdg;by_cases hk:k="write"
  .subst hk;obtain⟨a,b,s,rfl,s16⟩:=hw rfl;have uy:aC!<=big:=by unfold big;omega
   let P2:Nat->Ae->Prop:=λi ρ=>∃c8 y,ρ=xP_/\c8≠[]/\pd!<=2+16*(0+j)+i/\∀z∈c8,Lc z
   obtain⟨bi,e2,XA,y2,rfl,f20,f2l,y9⟩:=qS (bnd:=Cg 3) (q:=Px 1 tH_) P2 (Dl aC!) 0
    (xP_) ⟨c8,y,rfl,f0,fl,hf⟩ (by
     rintro i d ρ hd ⟨c8,y,rfl,f0,fl,hf⟩;unfold Dl at hd;rw[JC]at hd;obtain⟨i',df,rfl⟩:=HU.mp hd;obtain⟨am,he⟩:=IL.mp df;rw[PH]at he;subst he;rw[MF]at am;have hb:pd!<big:=by unfold big;omega
     refine⟨_,_,rfl,by push_cast[Px,hb];rfl,c8++[.tup [.int h',aR!,fy!]],_,rfl,H!,er_,lr!⟩;obtain hz|hz:=HX.mp hz
     .exact hf z hz
     .simp at hz;subst hz;exact .inr ⟨_,_,_,rfl,b1,b2,b3,b4,v!,v!⟩)
   have hr:-1000<=kt_/\kt_<=100000:=by omega
   refine⟨_,[aC_,some (.lst XA),xP!,y2],rfl,by push_cast[gU,Rv,Eu,uy,hr,e2],XA,_,_,rfl,f20,?_,y9⟩;simp[Dl]at f2l;omega
  .refine⟨_,[aC_,pc_,some (.tup [.int h',aR!,.int tm,.tup ci_]),y],rfl,by push_cast[gU,hk],c8,_,_,rfl,f0,v!,hf⟩)
 refine⟨c8,?_,f0,hf⟩;simp[Me,Ub,Mu,Ci,sSeq,Ac,Ag,fC,Rv,Ep,Aa,Bl,e]
abbrev letters:Str:=" abcXYZ.,;!019~[]\\\"'|{}<>@#$&*()-+/=_^:?`"
def uR:pd_=41:=by decide+kernel
def b1r:letters.cps.toList.all Ly=true:=by decide+kernel
def b7l:(dt_).cps=#[]:=by decide+kernel
def a1m:(dt_).length=0:=by decide+kernel
def Pe(c:Nat):D:=.str ar!
def a6c:∀(xs:c!),(∀x∈xs,∃c,x=Pe c/\Ly c=true)->∃cs:List Nat,xs=cs.map Pe/\cs.all Ly=true
 |[],_=>xR_
 |x::xs,h=>by
  obtain⟨c,rfl,hc⟩:=h x HQ;obtain⟨cs,rfl,p7⟩:=a6c xs λy hy=>h y eb!
  exact⟨c::cs,rfl,by simp only[NI,hc,p7,MM]⟩
def sC:∀(cs:l!),Qm ku_=some hy_
 |[]=>rfl
 |c::cs=>by simp only[HV,Pe,Qm];rw[show List.map Pe cs=List.map Pe cs from rfl,sC cs];rfl
def a8r:∀(cs:l!) (acc:Array Nat),(hy_).foldl (λacc p=>acc++(dt_).cps++p.cps) acc=acc++cs.toArray
 |[],acc=>by simp
 |c::cs,acc=>by
  rw[HV,OC,a8r cs,b7l];simp
def c1s(cs:l!):Txt.join dt_ hy_=pf!:=by
 unfold Txt.join Builtin.Str.glued;cases cs with
 |nil=>rfl
 |cons c cs=>
  simp only[HV,List.drop_succ_cons,List.drop_zero,List.headD_cons];rw[a8r];simp
def a2g:∀(cs:l!),((hy_).map (·.length)).sum=cH_
 |[]=>rfl
 |c::cs=>by
  have ih:=a2g cs;simp only[HV,List.sum_cons,IE];rw[ih];show 1+cH_=_;omega
def c3u{n most:Int}(Y:1<=most)(h16:most<=16):∃s,Ol [aR!,.int most]=some aT_/\Uh s=true/\1<=aC!/\aC!<=16:=by
 have WZ:0<=n%most:=KR _ a!;have xp:n%most<most:=KD _ a!;obtain⟨N,hN⟩:∃N:Nat,(N:Int)=1+n%most:=⟨(1+n%most).toNat,v!⟩;have hN1:1<=N:=by omega
 have hN2:N<=16:=by omega
 obtain⟨ys,e,l,hr⟩:=nJ (ρ:=xW!) (bnd:=Bd 0) (ft:=pf_) (fe:=f2 Ak x! tJ!)
  (λy=>∃c,y=Pe c/\Ly c=true) fy_ (by
   intro d hd;unfold Dl at hd;obtain⟨i,hi,rfl⟩:=IH.mp hd;have df:=NT.mp hi;have z1:(0:Int)<1+3*(i:Int):=by omega
   have z2:1+3*(i:Int)<1073741824:=by omega
   have ap:pd_<=big:=by rw[uR];decide
   have hsz:((xX!:Nat):Int)=41:=by
    have:xX!=41:=by rw[<-uR];simp[Str.length]
    omega
   obtain⟨c,ec,hc⟩:=a5r (xs:=letters.cps.toList) (i:=n / (1+3*(i:Int))%41) (KR _ b_) (by rw[hsz];exact KD _ b_);have nv:Ak qt_ (.int (n / (1+3*(i:Int))%41))=some (Pe c):=by
    show(if pd_<=big then(Dc letters.cps.toList _).map _ else none)=_;rw[HY ap,ec];rfl
   refine⟨_,true,rfl,rfl,λ_=>⟨Pe c,?_,c,rfl,LG.mp b1r c hc⟩⟩;simp[Bd,f2,Aa,fC,Ao,Eh,Dy,Ui,Ck,Bz,z1,z2,nv])
 have l2:=vE e;obtain⟨cs,rfl,p7⟩:=a6c ys hr;have ce:cH_=N:=by simpa[Dl]using l2
 have hrng:-1000<=(N:Int)/\(N:Int)<=100000:=by omega
 have hc:Hx 1 [0,2] (Eu ng!) E_ a3_ tJ_ xY_=some (.lst ku_):=by
  have hi:Eu ng! xY_=some fy_:=by
   simp[Eu,f2,fC,Aa,Bz,Dy,show 0<most by omega,Ao,<-hN,hrng]
  unfold Hx;rw[hi];show(if(fy_).length<=big then Option.map D.lst (Fp _ _ _ xW! fy_)else none)=_;rw[HY (by simp[Dl,big];omega),e];rfl
 have hj:Nk i5_ (.lst ku_)=some (.str pf!):=by
  unfold Nk;simp only[sC,MN,a2g,IK,a1m,Nat.mul_zero,Nat.add_zero,c1s];rw[dt!]
 refine⟨pf!,?_,?_,?_,?_⟩
 .simp[Ol,Vx,Ci,sSeq,Cp,fC,Bl,Xt,hc,hj]
 .simp only[Uh,Str.length,HS,p7,Bool.and_true,JA];omega
 .simp only[Str.length,HS];omega
 .simp only[Str.length,HS];omega
def HF:Ae->Option Fl:=tK!
def HE:Ae->Option Fl:=tK_
def HD:Ae->Option Fl:=tM!
def HC:Ae->Option Fl:=tN!
def GG:Ae->Option Fl:=tN_
def HB:Ae->Option Fl:=tO_
def HA:Ae->Option Fl:=tP!
def GZ:Ae->Option Fl:=tS_
def GY:Ae->Option Fl:=tV_
def GX:Ae->Option Fl:=tW_
def CP:Ae->Option Fl:=tY!
def CO:Ae->Option Fl:=t0!
def AU:Ae->Option Fl:=t2_
def Za:Ae->Option Fl:=t5_
nonrec def dq14:Ae->Option Fl:=t6_
nonrec def dq15:Ae->Option Fl:=t7!
def DP:Ae->Option Fl:=(sSeq GZ (sSeq GY (sSeq GX (sSeq CP x2_))))
def b6g:Qg=(sSeq HF (sSeq HE (sSeq HD (sSeq HC (sSeq GG (sSeq HB (sSeq HA DP))))))):=rfl
def bK{q1 q2:aU!}{ρ ρ':Ae}(h:q1 ρ=some cS!):sSeq q1 q2 ρ=q2 ρ':=by simp[sSeq,h]
def oX{q1 q2:aU!}{ρ:Ae}(h:q1 ρ=some a0_):sSeq q1 q2 ρ=some a0_:=by simp[sSeq,h]
def iO{f:e!}{ρ:Ae}{i:Nat}(h:cf_):Cp i f ρ=some qh!:=by simp[Cp,h]
abbrev kinds:List D:=[hw!,hw!,hw!,o8!,o8!,ko_,ko_,.str "cut",kp!,et_,kq!,o8_]
def KindOk(k:Str):Prop:=k="put"\/k="move"\/k="write"\/k="cut"\/k="set"\/k="undo"\/k="redo"\/k="drop"
def a9h{α:Type}{xs:P_}{lo hi:a8_}{x:α}(h:x∈Dk xs lo hi):x∈xs:=List.mem_of_mem_drop (List.mem_of_mem_take h)
def Rk:D->D
 |.str _=>.non
 |d=>d
def a8i(h:Cy d\/d=.non):(Fv "str" d=some true/\Rk d=.non)\/(Fv "str" d=some false/\Rk d=d/\Mz d):=by
 rcases h with(rfl|rfl|⟨a,b,rfl,h⟩)|rfl
 .exact .inl bi_
 .exact .inl bi_
 .exact .inr ⟨rfl,rfl,.inr ⟨a,b,rfl,h⟩⟩
 .exact .inr ⟨rfl,rfl,c0!⟩
def d0q(ns:w_){base most:Int}{ops:c!}(h:kq_)(hl:kr_):∃m0 its item je k,0<=m0/\its≠[]/\(∀x∈its,Cy x)/\Cy item/\Mz je/\KindOk k/\
  Qg x4_=DP pg_:=by
 obtain⟨m0,e0,p0,_⟩:=iD ns (k:=base);obtain⟨m1,e1,_,_⟩:=iD ns (k:=base+1);obtain⟨m2,e2,_,_⟩:=iD ns (k:=base+2);obtain⟨its,ei,i3,i200,oz⟩:=c1u h hl;have xq:its≠[]:=by intro z;subst z;simp at i3
 have rl:x8!≠[]:=by
  intro z;have z2:=congrArg List.length z;simp[Dk,HT.sIx]at z2;omega
 have ce:(yb!).length+(yb_).length<=big:=by
  simp[Dk,HT.sIx,big];omega
 obtain⟨item,ep,mp⟩:=nS (n:=m1) rl;have pb:Cy item:=by
  obtain z|z:=HX.mp mp
  .exact oz _ (a9h z)
  .exact oz _ (a9h z)
 have a1:Ao (.lst yb!) (.lst yb_)=some (.lst x8!):=by
  show hA!;rw[HY ce]
 have a2:Ao pa_ (.lst i6!)=some (.lst (its++i6!)):=by
  show(if gT_+2<=big then _ else none)=_;rw[dt!]
 obtain⟨oth,eo,mo⟩:=nS (n:=m2) (xs:=its++i6!) d!;have vd:Cy oth\/oth=.non:=by
  obtain z|z:=HX.mp mo
  .exact .inl (oz _ z)
  .simp at z;exact .inr z
 have fq:Mz (Rk oth):=by
  obtain⟨_,z⟩|⟨_,z,y⟩:=a8i vd
  .rw[z];exact .inl rfl
  .rw[z];exact y
 obtain⟨kd,ek,mk⟩:=a5r (xs:=kinds) (i:=m0%12) (KR _ b_) (by show _<(12:Int);exact KD _ b_);obtain⟨k,rfl,hk⟩:∃k,kd=.str k/\KindOk k:=by
  simp[kinds]at mk;unfold KindOk;obtain rfl|rfl|rfl|rfl|rfl|rfl|rfl|rfl:=mk<;>exact⟨_,rfl,H!⟩
 have ek':Ak (.lst kinds) (.int (m0%12))=some U!:=ek;refine⟨m0,its,item,Rk oth,k,p0,xq,oz,pb,fq,hk,?_⟩;rw[b6g];rw[bK (ρ':=[aa_,au!,aC_,br_,bW_,none,none,none,none,none,none,none]) (iO (by simp[f1,Ac,Aa,Ag,e0]))];rw[bK (ρ':=[aa_,au!,aC_,br_,bW_,cj!,none,none,none,none,none,none]) (iO (by simp[f1,Ac,Aa,Ag,ei]))];rw[bK (ρ':=[aa_,au!,aC_,br_,bW_,cj!,cL_,none,none,none,none,none]) (iO (by
  have b1:Ao kz_ aN_=some (.int (base+1)):=rfl;simp[f1,Ac,Aa,Ag,f2,Dp,Bj,Ap,Aq,fC,a1,b1,e1,ep]))]
 rw[bK (ρ':=[aa_,au!,aC_,br_,bW_,cj!,cL_,some oth,none,none,none,none]) (iO (by
  have b1:Ao kz_ bx_=some (.int (base+2)):=rfl;simp[f1,Ac,Aa,Ag,f2,fC,a2,b1,e2,eo]))]
 rw[bK (ρ':=[aa_,au!,aC_,br_,bW_,cj!,cL_,ph!,none,none,none,none]) (by
  obtain⟨z1,z2⟩|⟨z1,z2,_⟩:=a8i vd<;>simp[GG,Gi,fT,Em,Aa,z1,z2,Cs,Cp,fC])]
 rw[bK (ρ':=[aa_,au!,aC_,br_,bW_,cj!,cL_,ph!,fz!,none,none,none]) (iO g1_)];rw[bK (ρ':=[aa_,au!,aC_,br_,bW_,cj!,cL_,ph!,fz!,some U!,none,none]) (iO (by simp[f2,Aa,fC,Bz,Dy,ek']))]
section
variable{ρ:Ae}
def b7g{c:ah_}{a b:aU!}(h:c ρ=some true):Gi c a b ρ=a ρ:=by unfold Gi;rw[h];rfl
def iF{c:ah_}{a:aU!}(h:c ρ=some false):Gi c a Cs ρ=some aK_:=by unfold Gi;rw[h];rfl
def rL{i:Nat}{b:Bool}(h:Aa i ρ=some U!)(e:(k==s)=b):fT (f2 Ba (Aa i) (fC aT_)) ρ=some b:=by unfold fT f2 fC;rw[h];show(Ba U! aT_).bind _=_;rw[gU,e];rfl
def bN{f:e!}{fs:as_}(h:cf_)(g:hA_):Ac f fs ρ=some ee_:=by unfold Ac;rw[h,g];rfl
def pB{fs:as_}{ds:c!}(h:hA_)(hl:yf!):Bl (Aw fs) ρ=some (.rt dm!):=by unfold Bl Aw;rw[h];show Option.map _ yf_=_;rw[yg!];rfl
def lR{g:ai!}{fs:as_}(h:hA_)(e:g ds=some d):f1 g fs ρ=some d:=by unfold f1;rw[h];exact e
def dX{g:bd!}{f1 f3:e!}(h:f1 ρ=some x)(k:f3 ρ=some y)(e:g x y=some d):f2 g f1 f3 ρ=some d:=by unfold f2;rw[h,k];exact e
def a7p{ns:w_}{base j m:Int}(h:Aa 0 ρ=some (scr ns))(g:Aa 1 ρ=some kz_)(e:Bv [ds_,.int (base+j)]=some do!):f1 Bv (Ac n! (Ac (f2 Ao v_ (fC cH!)) Ag)) ρ=some do!:=
 lR (bN h (bN (dX g rfl rfl) rfl)) e
def b9o{m:Int}{f h:e!}(a:f ρ=some T!)(b:h ρ=some do!)(e:Du [.lst xs,el_]=some p):f1 Du (Ac f (Ac h Ag)) ρ=some p:=
 lR (bN a (bN b rfl)) e
end
def tK{i j:Int}(h:0<j):Bz bx! cH!=some (.int (i%j)):=by show(if decide (0<j)=true then _ else _)=_;rw[HY (IV h)]
def c6l(ns:w_){base most:Int}{ops:c!}(h:kq_)(hl:kr_)(xp:1<=most)(hm16:most<=16):∃d,Ks yi_=some d/\DG d:=by
 obtain⟨m0,its,item,je,k,p0,xq,oz,pb,vd,hk,hA⟩:=d0q ns (base:=base) (most:=most) h hl;have fin:∀d,DP pg_=some a0_->Ks yi_=some d:=λd e=>by
  unfold Ks Ci;rw[g2!];show(match Qg x4_ with|some (.rt d)=>some d|some (.nx _)=>some .non|none=>none)=_;rw[hA,e]
 clear hA;obtain⟨m1,e1,_,_⟩:=iD ns (k:=base+1);obtain⟨m3,e3,_,_⟩:=iD ns (k:=base+3);obtain⟨m4,e4,_,_⟩:=iD ns (k:=base+4);obtain⟨m5,e5,_,_⟩:=iD ns (k:=base+5);obtain⟨p1,ep1,mp1⟩:=nS (n:=m1) xq;obtain⟨p3,ep3,mp3⟩:=nS (n:=m3) xq;obtain⟨ss,es,hs0,hss⟩:=b8i h hl;obtain⟨sg,eg,mg⟩:=nS (n:=m4) hs0;have XB:=hss _ mg;obtain⟨tx,et,ht1,ht0,ht2⟩:=c3u (n:=m5) xp hm16;have ve:∀{k:Str},CP pg_=some (.nx pi_):=
  iO (lR (bN (lR hB_ es) (bN (a7p rfl rfl e4) rfl)) eg)
 have XC:∀{k:Str},yj!=true->Za pi_=some (.rt yj_):=λ{k} e=>
  (b7g (by unfold fT;rw[yk!,e];rfl)).trans (pB rfl rfl)
 have XD:DG yj_:=.set pb a! a! a!;obtain⟨nm,nn,hun⟩:∃nm,NameG nm/\∀{k:Str},("put"==k)=false->sSeq dq14 dq15 [some (scr ns),some (.int base),some (.lst ops),some (.int most),some (.int m0),some (.lst its),some item,some je,some (.lst kinds),some (.str k),some sg,none]=some (.rt (.tup [.str k,nm])):=by
  obtain⟨ys,e,l,hr⟩:=nJ (ρ:=cK_) (bnd:=Bd 0) (ft:=pf_) (fe:=Aw gG!)
   (xI_) ops (by
    intro o ho;obtain⟨h',n,tm,d,rfl,b1,b2,b3,b4,_⟩:=h o ho;exact⟨_,true,rfl,rfl,λ_=>⟨_,rfl,xJ!⟩⟩)
  have a1:Ao ba_ (.lst pk!)=some (.lst (ys++pk!)):=by
   show(if ad!+1<=big then _ else none)=_;rw[dt!]
  obtain⟨nm,en,mn⟩:=nS (n:=m1) (xs:=ys++pk!) d!;refine⟨nm,?_,λ{k} _=>(bK (iO (dX ?_ rfl a1))).trans (pB (bN rfl (bN (b9o rfl ym! en) rfl)) rfl)⟩
  .obtain z|z:=HX.mp mn
   .exact hr _ z
   .simp at z;subst z;exact⟨_,_,rfl,R!,R!,v!,v!⟩
  .show xK_;rw[dt!,e];rfl
 have xr:∀{k:Str},("put"==k)=false->(k=="write")=false->(k=="cut")=false->yj!=false->(x2_) pi_=some (.rt (.tup [.str k,nm])):=λ{k} e0 w c s=>
  (bK (iF (rL rfl w))).trans ((bK (iF (by unfold Cz;rw[rL rfl c];rfl))).trans ((bK (iF (by unfold fT;rw[yk!,s];rfl))).trans (hun e0)))
 unfold KindOk at hk;obtain rfl|rfl|rfl|rfl|rfl|rfl|rfl|rfl:=hk
 .exact⟨_,fin _ (oX ((kB_).trans (pB (bN rfl (bN (b9o rfl ym! ep1) rfl)) rfl))),.put (oz _ mp1) vd⟩
 .exact⟨_,fin _ ((bK (iF (rL rfl jH))).trans (oX ((kB_).trans (pB (bN rfl (bN rfl (bN (b9o rfl (a7p rfl rfl e3) ep3) rfl))) rfl)))),.move pb (oz _ mp3) vd⟩
 all_goals first|(refine⟨_,fin _ ((bK (iF (rL rfl jI))).trans ((bK (iF (rL rfl iL))).trans (oX ((kB_).trans (pB rfl rfl))))),.drop pb⟩;done)|skip
 .exact⟨_,fin _ ((bK (iF (rL rfl kX))).trans ((bK (iF (rL rfl jR))).trans ((bK (iF (rL rfl jS))).trans ((hD_).trans
   (oX ((kB_).trans (pB (bN rfl (bN rfl (bN rfl (bN (lR (bN (a7p rfl rfl e5) rfl) et) rfl)))) rfl))))))),.write pb XB ht1 ht0 ht2⟩
 .have go:DP [aa_,au!,aC_,br_,bW_,cj!,cL_,ln_,fz!,some dP_,none,none]=sSeq AU x1_ [aa_,au!,aC_,br_,bW_,cj!,cL_,ln_,fz!,some dP_,some sg,none]:=(bK (iF (rL rfl pK))).trans ((bK (iF (rL rfl mY))).trans ((bK (iF (rL rfl mZ))).trans ((hD_).trans (bK (iF (rL rfl kZ))))));obtain rfl|⟨a,b,c,rfl,Y,L,h3,h4,c0,c15⟩:=XB
  .exact⟨_,fin _ (go.trans ((bK (iF yu!)).trans (oX (XC rfl)))),XD⟩
  .have hc:0<16 - c:=by omega
   have q1:0<=m0 / 12%(16 - c):=KR _ a!;have q2:m0 / 12%(16 - c)<16 - c:=KD _ hc;exact⟨_,fin _ (go.trans (oX ((b7g yu!).trans (pB (bN rfl (bN rfl (bN rfl (bN (dX rfl (dX rfl rfl (tK hc)) rfl) rfl)))) rfl)))),.cut pb ⟨a,b,c,rfl,Y,L,h3,h4,c0,c15⟩ a! a!⟩
 .exact⟨_,fin _ ((bK (iF (rL rfl pI))).trans ((bK (iF (rL rfl mW))).trans ((bK (iF (rL rfl mX))).trans ((hD_).trans ((bK (iF (rL rfl kY))).trans ((bK (iF (by unfold Cz;rw[rL rfl pJ];rfl))).trans (oX (XC k!)))))))),XD⟩
 .exact⟨_,fin _ ((bK (iF (rL rfl uT))).trans ((bK (iF (rL rfl qU))).trans ((bK (iF (rL rfl qV))).trans ((hD_).trans (xr uX oS uU k!))))),.undo nn⟩
 .exact⟨_,fin _ ((bK (iF (rL rfl uV))).trans ((bK (iF (rL rfl qX))).trans ((bK (iF (rL rfl qY))).trans ((hD_).trans (xr uY oT uW k!))))),.redo nn⟩
def fV(h:Cy d):Ei d=true:=by obtain rfl|rfl|⟨a,b,rfl,_⟩:=h<;>simp[Ei,Fj]
def a0f(h:Mz d):Ei d=true:=by obtain rfl|⟨a,b,rfl,_⟩:=h<;>simp[Ei,Fj]
def xN(h:NameG d):Ei d=true:=by obtain⟨a,b,rfl,_⟩:=h;simp[Ei,Fj]
def b0d(h:Lc d):Ei d=true:=by obtain rfl|⟨a,b,c,rfl,_⟩:=h<;>simp[Ei,Fj]
def b2c(h:DG d):Ei d=true:=by
 cases h with
 |put Y L=>simp[Ei,Fj,fV Y,a0f L]
 |move Y L h3=>simp[Ei,Fj,fV Y,fV L,a0f h3]
 |drop Y=>simp[Ei,Fj,fV Y]
 |write Y L=>simp[Ei,Fj,fV Y,b0d L]
 |cut Y=>simp[Ei,Fj,fV Y]
 |set Y=>simp[Ei,Fj,fV Y]
 |undo Y=>simp[Ei,Fj,xN Y]
 |redo Y=>simp[Ei,Fj,xN Y]
abbrev Vp:Ae->Option Fl:=(sSeq ub!
 (sSeq ub_
 (sSeq uc!
 (sSeq ud!
 (sSeq ud_
 uf_)))))
end K24
namespace K24
open PySem L2 DL
open Classical
inductive Stp(W:OW)(n:D):D->OW->Prop
 |put {a b:D} {rows':i!}:Cy a->Mz b->Qe W.rows n cI_ b rows'->Stp W n es! bc!
 |mvY {a b c:D} {rows':i!}:Cy a->Cy b->Mz c->yy!->Qe W.rows a b c rows'->Stp W n hw_ {W with rows:=rows'}
 |mvN {a b c:D}:Cy a->Cy b->Mz c->¬yy!->Stp W n hw_ W
 |drY {a:D} {rows':i!}:Cy a->yy_->Qe W.rows a binn .non rows'->Stp W n hx! {W with rows:=rows'}
 |drN {a:D}:Cy a->¬yy_->Stp W n hx! W
 |wrt {a b:D} {s:Str} {h m:Int}:Cy a->Lc b->aC!<=16->n=.tup ck!->Stp W n fw_ (if a∈W.its then setT W a yz! else W)
 |cut {a:D} {x y z m:Int}:Cy a->0<=z->1<=m->z+m<=16->Stp W n (.tup [.str "cut",a,.tup [.int x,.int y,.int z],.int m]) (if a∈W.its then setT W a (cutT ((List.range m.toNat).map λk=>.tup hh_) au_)else W)
 |set {a:D} {p v:Int}:Cy a->0<=p->p<=3->Stp W n kD_ (if a∈W.its then Ss W a kE_ else W)
def cQ(h:Cy x):∃k,Db x=some k:=by
 obtain rfl|rfl|⟨a,b,rfl,_⟩:=h
 .exact L!
 .exact L!
 .exact L!
def wQ(h:Mz x):∃k,Db x=some k:=by
 obtain rfl|⟨a,b,rfl,_⟩:=h
 .exact L!
 .exact L!
def b5u(h:Lc x):∃k,Db x=some k:=by
 obtain rfl|⟨a,b,c,rfl,_⟩:=h
 .exact L!
 .exact L!
structure Rt(W:OW)(pre:c!):Prop where
 inv:Bs W
 its:∀x∈W.its,x∈pre
 sgs:∀x∈W.its,∀q∈W.txt x,∃h n k,q.1=.tup yz_/\D.tup X!∈pre
 chr:∀x∈W.its,∀q∈W.txt x,∃c:Nat,q.2.1=.str ar!
section
variable{t:Au}{M:Mh}{o:x7!}{rl:Addr->Nw}{W W':OW}{B:Nat}{R:D->Mh->Prop}{pre:List D}
def pY{h n:Int}{s:Str}{q:fk!}(hq:q∈s.cps.toList.zipIdx.map em!):∃c k:Nat,q=(.tup pr!,.str ar!,true):=by obtain⟨⟨c,k⟩,_,rfl⟩:=IH.mp hq;exact⟨c,k,rfl⟩
def b3b(h n:Int):∀(cs:l!) (k0:Nat),(((yA!).map c_)).Nodup/\∀k:Nat,k<k0->D.tup pr!∉(yA!).map c_
 |[],k0=>by simp
 |c::cs,k0=>by
  obtain⟨Y,L⟩:=b3b h n cs (k0+1);rw[NV];simp only[HV];refine⟨IJ.mpr ⟨L k0 a!,Y⟩,λk hk z=>?_⟩;obtain z|z:=HN.mp z
  .simp[sgn]at z;omega
  .exact L k a! z
def a2h{h m:Int}(hs:yC!)(w:cM!)(hn:yB!):Rt W' yB_:=by
 have keep:∀{V:OW},V.its=W.its->V.txt=W.txt->Bs V->Rt V yB_:=λ{V} e1 e2 wi=>by
  refine⟨wi,aG_,kF!,kF!⟩
  .rw[e1]at J;exact IS _ (w.its x J)
  .rw[e1]at J;rw[e2]at hq;obtain⟨a,b,c,e,hm⟩:=w.sgs x J q hq;exact⟨a,b,c,e,IS _ hm⟩
  .rw[e1]at J;rw[e2]at hq;exact w.chr x J q hq
 cases hs with
 |put y1 y2 hg=>
  rename_i a b rows';have ni:D.tup ck!∉W.its:=λz=>hn (w.its _ z);have hp:Ew W cI_:=by split;assumption;exact .inr fc_
  have im:∀x,x∈(yC_).its↔x∈W.its\/x=.tup ck!:=λx=>by simp[Fo]
  have tx:∀x,(yC_).txt x=if x=.tup ck! then[]else W.txt x:=λx=>rfl
  refine⟨hg.winv_put w.inv ni bF_ hp,aG_,kF!,kF!⟩
  .obtain z|rfl:=(cC_).mp J
   .exact IS _ (w.its x z)
   .simp
  .rw[tx]at hq;by_cases e:x=.tup ck!
   .rw[HY e]at hq;cases hq
   .rw[HP e]at hq;obtain⟨a,b,c,e',hm⟩:=w.sgs x yD! q hq;exact⟨a,b,c,e',IS _ hm⟩
  .rw[tx]at hq;by_cases e:x=.tup ck!
   .rw[HY e]at hq;cases hq
   .rw[HP e]at hq;exact w.chr x yD! q hq
 |mvY _ _ _ hc hg=>exact keep rfl rfl yE!
 |mvN _ _ _ hc=>exact keep rfl rfl w.inv
 |drY _ hc hg=>exact keep rfl rfl yE!
 |drN _ hc=>exact keep rfl rfl w.inv
 |wrt y1 y2 y3 e=>
  rename_i a b s h' m';cases e;by_cases c:a∈W.its
  .rw[HY c];obtain⟨U,v,e1,e2,e3⟩:=sB b hE! au_;have mem:∀q,q∈wrT b hE! au_↔q∈W.txt a\/q∈s.cps.toList.zipIdx.map kD!:=λq=>by
    rw[e2,e1];simp only[HX];constructor<;>(intro z;rcases z with(z|z)|z<;>simp[z])
   have fresh:∀x∈W.its,∀q∈W.txt x,∀k:Int,q.1≠.tup [aS_,el_,hv!]:=λx J q hq k z=>by
    show"![";rw[e']at z;cases z;exact hn hm
   have tx:∀x,(yF!).txt x=if x=a then wrT b hE! au_ else W.txt x:=λx=>rfl
   have all:∀(P:D×D×Bool->Prop),(∀x∈W.its,∀q∈W.txt x,P q)->(∀q∈s.cps.toList.zipIdx.map kD!,P q)->∀x∈W.its,∀q∈(yF!).txt x,P q:=λP Y L x J q hq=>by
    rw[tx]at hq;by_cases e:x=a
    .rw[HY e]at hq;obtain z|z:=(mem q).mp hq
     .exact Y a c q z
     .exact L q z
    .rw[HP e]at hq;exact Y x J q hq
   refine⟨sE w.inv c ?_ ej_ ou_,λx J=>IS _ (w.its x J),all _ (λx J q hq=>?_) ej_,all _ w.chr ej_⟩
   .rw[e2];have nd:=w.inv.snd a c;rw[e1]at nd;obtain⟨n1,_⟩:=b3b h m s.cps.toList 0;have dj:∀q∈W.txt a,∀q'∈s.cps.toList.zipIdx.map kD!,q.1≠q'.1:=λq hq q' a9=>by
     obtain⟨c',k',rfl⟩:=pY a9;exact fresh a c q hq _
    simp only[IU]at nd ⊢;rw[IY]at nd;rw[IY,IY];refine⟨⟨nd.1,n1,jM!⟩,nd.2.1,jM!⟩
    .obtain⟨q,hq,rfl⟩:=IH.mp J;obtain⟨q',a9,rfl⟩:=IH.mp hy;exact dj q (by rw[e1];exact IS _ hq) q' a9
    .obtain J|J:=HX.mp J
     .exact nd.2.2 x J y hy
     .obtain⟨q',a9,rfl⟩:=IH.mp J;obtain⟨q,hq,rfl⟩:=IH.mp hy;exact HR (dj q (by rw[e1];exact IA _ hq) q' a9)
   .obtain z|z:=(mem q).mp hq
    .exact w.inv.sg a c q z
    .obtain⟨c',k',rfl⟩:=pY z;exact wS_
   .obtain z|z:=(mem q).mp hq
    .exact(w.inv.su a c y hy q z q' a9 e).symm
    .obtain⟨c',k',rfl⟩:=pY z;exact absurd e.symm (fresh y hy q' a9 _)
   .show"![";exact pu_
   .obtain⟨c',k',rfl⟩:=pY hq;exact⟨_,_,_,rfl,H!⟩
   .obtain⟨c',k',rfl⟩:=pY hq;exact L!
  .show"#!"
 |cut y1 y2 y3 y4=>
  rename_i a x y z m';by_cases c:a∈W.its
  .rw[HY c];have tx:∀v,(setT W a (cutT yI! au_)).txt v=if v=a then cutT yI! au_ else W.txt v:=λx=>rfl
   refine⟨a1s w.inv c _,λv hv=>IS _ (w.its v hv),yI_,yI_⟩
   .rw[tx]at hq;split at hq
    .show"!:";obtain⟨a',b',c',e',hm⟩:=w.sgs a c q0 h0;exact pu_
    .obtain⟨a',b',c',e',hm⟩:=w.sgs v hv q hq;exact pu_
   .rw[tx]at hq;split at hq
    .show"!:";exact w.chr a c q0 h0
    .exact w.chr v hv q hq
  .show"#!"
 |set y1 y2 y3=>
  rename_i a p v;by_cases c:a∈W.its
  .rw[HY c];exact keep rfl rfl (b5w w.inv (by rw[LO];exact w.inv.nl a c))
  .show"#!"
end
def c1n:(Str.ofString "put"==Str.ofString "put")=true:=by decide+kernel
def a4q:(Str.ofString "move"==Str.ofString "move")=true:=by decide+kernel
def a4r:(Str.ofString "drop"==Str.ofString "drop")=true:=by decide+kernel
def a8e:(Str.ofString "write"==Str.ofString "write")=true:=by decide+kernel
def c1o:(Str.ofString "cut"==Str.ofString "cut")=true:=by decide+kernel
def c1m:(Str.ofString "set"==Str.ofString "set")=true:=by decide+kernel
section
variable{t:Au}{M:Mh}{o:x7!}{rl:Addr->Nw}{W W':OW}{B:Nat}{R:D->Mh->Prop}{pre:List D}
def ifT{ft:ah_}{q1 q2:WS}{ρ:Ae}{R:j!}(h:yJ_)(k:q1 ρ M R):Av (De ft) q1 q2 ρ M R:=by simp only[Av,De,h];exact k
def iY{ft:ah_}{q1 q2:WS}{ρ:Ae}{R:j!}(h:yK!)(k:du!):Av (De ft) q1 q2 ρ M R:=by simp only[Av,De,h];exact k
def bB:(fT (f2 Ba bA_ (fC pw_))) [D_,eq_,some eu_]=some kG!:=by
 have e:Ak eu_ L_=some U!:=by
  show px!;show"!d"
 simp[fT,f2,Aa,fC,e,gU]
def ix1:Ak px_ aN_=some a:=by show Dc (D.str k::a::r) 1=_;unfold Dc Ea;rw[ac!,ev!];simp
def ix2:Ak py! bx_=some b:=by show Dc (D.str k::a::b::r) 2=_;unfold Dc Ea;rw[ac!,ev!];simp
def ix3:Ak py_ bi!=some c:=by show Dc (D.str k::a::b::c::r) 3=_;unfold Dc Ea;rw[ac!,ev!];simp
def ax1:f2 Ak x! w! [D_,eq_,some px_]=some a:=ix1
def ax2:f2 Ak x! S_ [D_,eq_,some py!]=some b:=ix2
def ax3:f2 Ak x! al_ [D_,eq_,some py_]=some c:=ix3
def av0:Aa 0 yM_=some N_:=rfl
def av1:Aa 1 yM_=some n:=rfl
def hW{f:WE}{ρ:Ae}{R:j!}(k:f ρ M λ_ M1=>R aK_ M1):Bo f ρ M R:=k
def xR{g:WF}{fo f1 f2 f3:e!}{ρ:Ae}(h0:fo ρ=some d)(Y:fu!)(L:hq!)(h3:pz!)(ho:lh!)(k:g [d,a,b,c] M R):Bb C m 4 g dq_ (Ab kd_ (Ab (wl f2) (Ab (wl f3) Af))) ρ M R:=by simp only[Bb,wl,Ab,Af,h0,Y,L,h3];exact oY!
def d3d{g:WF}{fo f1 f2 f3 f4:e!}{ρ:Ae}(h0:fo ρ=some d)(Y:fu!)(L:hq!)(h3:pz!)(h4:f4 ρ=some e)(ho:lh!)(k:g [d,a,b,c,e] M R):Bb C m 5 g dq_ yO! ρ M R:=by simp only[Bb,wl,Ab,Af,h0,Y,L,h3,h4];exact oY!
def c4t{h m:Int}(hO:aA_)(w:cM!)(hn:yB!)(hs:yC!)(hB:hh!)
  (hR:∀M' ac,Cf t M' o ac W' bq!->Fr M rl M' ac->R .non M'):Nt t [bc_,.tup ck!,d] M R:=by
 have SD:=hO;obtain⟨a1,a2,a3,a4,a5,a6,k1,k2,k3,k4,k5,k6,hA⟩:=SD;have fresh:∀x∈W.its,∀k':Nat,D.tup [aS_,el_,.int (k':Nat)]∉(aH_).map c_:=λx J k' z=>by
  obtain⟨q,hq,e⟩:=IH.mp z;show"![";rw[e']at e;cases e;exact hn hm
 refine j_;show Xk t [D_,some pr_,some d] M _;cases hs with
 |put ha hb hg=>
  show"!1";obtain⟨kb,lf⟩:=wQ hb;refine ifT (bB.trans (congrArg some c1n)) ?_;exact hW (xR av0 av1 ax1 ax2 (hA.noOb oM4) (c8q hO w.inv (λz=>hn (w.its _ z)) bF_ bm lf hB hg hR))
 |mvY ha hb bv hc hg=>
  show"!I";exact hW (xR av0 ax1 ax2 ax3 kH! (vX hO w.inv bm lf SE hB λM' f1 _ fr=>hR M' rl (f1 hc _ hg) fr))
 |mvN ha hb bv hc=>
  show"!I";exact hW (xR av0 ax1 ax2 ax3 kH! (vX hO w.inv bm lf SE hB λM' _ f1 fr=>hR M' rl (f1 hc) fr))
 |drY ha hc hg=>
  show"!~";exact hW (xR av0 ax1 rfl rfl kH! (vX hO w.inv bm (kx:=pA_) rfl (ks:=none) rfl hB λM' f1 _ fr=>hR M' rl (f1 hc _ hg) fr))
 |drN ha hc=>
  show"!~";exact hW (xR av0 ax1 rfl rfl kH! (vX hO w.inv bm (kx:=pA_) rfl (ks:=none) rfl hB λM' _ f1 fr=>hR M' rl (f1 hc) fr))
 |wrt ha hb dh e=>
  cases e;show"!1";obtain⟨kb,lf⟩:=b5u hb;refine iY (bB.trans (congrArg some kX)) ?_;refine iY (bB.trans (congrArg some jR)) ?_;refine iY (bB.trans (congrArg some jS)) ?_;refine ifT (bB.trans (congrArg some a8e)) ?_;exact hW (d3d av0 av1 ax1 ax2 ax3 (hA.noOb oM7) (b7v hO w.inv bm lf hB dh fresh λM' f1 _ fr=>hR M' rl f1 fr))
 |cut ha b5 Y L=>
  show"!1";refine iY (bB.trans (congrArg some pK)) ?_;refine iY (bB.trans (congrArg some mY)) ?_;refine iY (bB.trans (congrArg some mZ)) ?_;refine iY (bB.trans (congrArg some kZ)) ?_;refine ifT (bB.trans (congrArg some c1o)) ?_;exact hW (xR av0 ax1 ax2 ax3 (hA.noOb oM8) (d0w hO w.inv bm hB b5 Y L λM' f1 fr=>hR M' rl f1 fr))
 |set ha Y L=>
  show"!1";refine iY (bB.trans (congrArg some pI)) ?_;refine iY (bB.trans (congrArg some mW)) ?_;refine iY (bB.trans (congrArg some mX)) ?_;refine iY (bB.trans (congrArg some kY)) ?_;refine iY (bB.trans (congrArg some pJ)) ?_;refine ifT (bB.trans (congrArg some c1m)) ?_;exact hW (xR av0 ax1 ax2 ax3 (hA.noOb oM9) (zE hO w.inv bm Y L λM' f1 fr=>hR M' rl (f1.mono a!) fr))
def c4u{k:Str}(hk:yT_)(hR:R .non M):Nt t [bc_,n,.tup pB!] M R:=by
 refine j_;obtain rfl|rfl:=hk
 .refine iY (bB.trans (congrArg some uT)) ?_;refine iY (bB.trans (congrArg some qU)) ?_;refine iY (bB.trans (congrArg some qV)) ?_;refine iY (bB.trans (congrArg some oS)) ?_;refine iY (bB.trans (congrArg some uU)) ?_;refine iY (bB.trans (congrArg some a7y)) ?_;exact hR
 .refine iY (bB.trans (congrArg some uV)) ?_;refine iY (bB.trans (congrArg some qX)) ?_;refine iY (bB.trans (congrArg some qY)) ?_;refine iY (bB.trans (congrArg some oT)) ?_;refine iY (bB.trans (congrArg some uW)) ?_;refine iY (bB.trans (congrArg some a8b)) ?_;exact hR
def cP{bnd:ai_}{ck:bf_}{ft:WT}{fe:WE}{ρ:Ae}(b:D->Bool)(y:D->D)(cr:ck M):∀(ds:c!) (R:kT_),
  (∀d∈ds,∃ai,bnd d ρ=some ai/\(∀K:Bool->Mh->Prop,K (b d) M->ft ai M K)/\(b d=true->∀K:D->Mh->Prop,K (y d) M->fe ai M K))->R ((ds.filter b).map y) M->Ro bnd ck ft fe ρ ds M R
 |[],R,_,hR=>⟨cr,hR⟩
 |d::ds,R,h,hR=>by
  obtain⟨ai,e1,e2,e3⟩:=h d HQ;refine kJ!;rw[e1];refine e2 _ ?_;cases hb:b d with
  |true=>
   rw[k_];refine e3 hb _ (cP b y cr ds _ yX! ?_);rw[JY hb]at hR;exact hR
  |false=>
   rw[W_];refine cP b y cr ds _ yX! ?_;rw[JQ (by simp[hb])]at hR;exact hR
def Ux(W:OW)(x:D):List eb_:=(aH_).filter (·.2.2)
def a6f(hO:aA_)(w:Bs W)(J:aZ!)(hB:B<4000)(hR:R (.lst pC!) M):Do t ee! M R:=by
 obtain⟨a1,a2,a3,a4,a5,a6,k1,k2,k3,k4,k5,k6,hA⟩:=hO;obtain⟨e3,h3⟩:=hA.d3;obtain⟨e6,h6⟩:=hA.d6;obtain⟨k,hk⟩:=(w.nm x J).key;obtain⟨r,f,p,g1,g2,g3,g4,g5⟩:=hA.txt x J;have lt:=hA.lt x J;refine j_;have va:∀R',w2 Bt eV_ u! kJ_ M R'=R' bb! M:=by
  intro R';simp[w2,wl,Ay,Gw,hA.ob,oF3,Bt,h3,hk,g1,Dz,Aa]
 show Az (Bf 1 [0] _ _ _ _) kJ_ M _;simp only[Az,Bf,Bw,Bb,va,Af];refine⟨by simp only[Dh,g2.ob,rM.2.2.1,and_self],rfl,?_⟩;refine a0y g2 am! (b2v w J) ?_;refine dw!;refine cP (λd=>!(kget k6 d).isSome) id trivial _ _ bG_ ?_
 .show"!=";obtain⟨kq,pe⟩:=(wg_).key;refine⟨[some q.1,D_],rfl,ew_,yY!⟩;simpa[wT,w2,wl,Ay,Gw,Aa,Dz,hA.ob,oF6,Ib,h6,pe]using hK
 .have e:((ob!).filter λd=>!(kget k6 d).isSome).map id=(dv_).map c_:=by
   rw[RU];unfold Ux;rw[MH];congr 1;apply KU;intro q hq;simp only[Function.comp];rw[hA.hi x J q hq];simp
  rw[e];exact hR
def b0a(hO:aA_)(w:Bs W)(J:aZ!)(hB:B<4000)(hj:pC_)(hR:R v M):Go t ee! M R:=by
 have SD:=hO;obtain⟨a1,a2,a3,a4,a5,a6,k1,k2,k3,k4,k5,k6,hA⟩:=SD;obtain⟨e5,h5⟩:=hA.d5;have lt:=hA.lt x J;refine j_;show Az (Ql _ (Bf 1 [0] sB! _ _ _)) kJ_ M _;simp only[Az,Ql,Bf,Bw];have hm:∀(K:s_),K (.lst pC!) M->Bb t.B4 "signs_of" 2 (Do t) h_ am_ kJ_ M K:=λK hK=>⟨hA.noOb d4l,rfl,a6f hO w J hB hK⟩;refine hm _ ?_;have ls:(dv_).length<=(aH_).length:=NB _ _;refine dw!;refine cP cN! (λd=>(kget k5 d).getD .non) trivial _ _ bG_ ?_
 .show"!=";have a9:=(pD_).1;obtain⟨kq,pe⟩:=(w.sg x J q a9).key;refine⟨[some q.1,D_],rfl,fF_,dw_⟩;simpa[w2,wl,Ay,Gw,Aa,Dz,hA.ob,oF5,Bt,h5,pe,hA.wr x J q a9]using hK
 .have e:(((pC!).filter λ_=>true).map λd=>(kget k5 d).getD .non)=(dv_).map kK!:=by
   rw[fG!,JL];apply KJ;intro q hq;simp only[Function.comp];rw[hA.wr x J q (pD_).1];rfl
  rw[e];rw[hj];exact hR
end
structure Op where
 h:Int
 n:Int
 tm:Int
 d:D
nonrec def Op.v(o:Op):D:=.tup kK_
nonrec def Op.nm(o:Op):D:=.tup [fG_,.int o.n]
nonrec def Op.key(o:Op):Int×Int:=(o.tm,o.h)
def Et:D->Option ci!
 |.tup [.str k,a]=>if pE! then some (k,a)else none
 |_=>none
def gL(k:Str)(a:D):Et (.tup pB!)=if pE! then some (k,a)else none:=rfl
def rV(h:DG d):(∃k a,d=.tup pB!/\y0_/\NameG a/\Et d=some (k,a))\/(∃k r,d=.tup ci_/\hH_=false/\(k=="redo")=false/\Et d=none):=by
 have uu:pE_=true:=by decide+kernel
 have rr:pF!=true:=by decide+kernel
 cases h with
 |put Y L=>exact .inr ⟨_,_,rfl,uX,uY,rfl⟩
 |move Y L h3=>exact .inr ⟨_,_,rfl,a4o,a4p,rfl⟩
 |drop Y=>
  refine .inr ⟨_,_,rfl,qZ,rA,?_⟩;rw[gL,qZ,rA];rfl
 |write Y L h3 h4 h5=>exact .inr ⟨_,_,rfl,zU,zV,rfl⟩
 |cut Y L h3 h4=>exact .inr ⟨_,_,rfl,a8c,a8d,rfl⟩
 |set Y L h3 h4=>exact .inr ⟨_,_,rfl,a7z,a8a,rfl⟩
 |undo Y=>
  refine .inl ⟨_,_,rfl,c0!,Y,?_⟩;rw[gL,uu];rfl
 |redo Y=>
  refine .inl ⟨_,_,rfl,.inr rfl,Y,?_⟩;rw[gL,rr,qW];rfl
def a4u(o:Op):Di [o.v]=some y1!:=by simp[Di,Ky,Op.v,Ci,Bl,Aw,Ac,Ag,f2,Aa,fC,Ak,Dc,Ea]
def yH:∀ops:List Op,Nq Di ex!=some pF_
 |[]=>rfl
 |o::r=>by
  rw[HV];unfold Nq;rw[a4u,yH r];rfl
def d3k(o:Op):Jb Di o.v=o.key:=by unfold Jb;rw[a4u];rfl
def a8o{α β:Type}{f:lr_}{k:α->Int×Int}{k':β->Int×Int}(h:y1_)(x:α):∀l:List α,Rn k' (f x) eH_=(Rn k x l).map f
 |[]=>rfl
 |y::r=>by
  simp only[HV,Rn,h];split
  .rfl
  .rw[a8o h x r];rfl
def pX{α β:Type}{f:lr_}{k:α->Int×Int}{k':β->Int×Int}(h:y1_):∀l:List α,Jo k' eH_=(Jo k l).map f
 |[]=>rfl
 |x::r=>by rw[HV];unfold Jo;rw[pX h r,a8o h]
abbrev srt(ops:f_):List Op:=Jo Op.key ops
def nF{ops:f_}(nd:ex_)(hl:cN_):Dm ck_=some (.lst hI!):=by
 have e:AC Di ex!=some hI!:=by
  unfold AC;rw[yH];show(if(pF_).Nodup/\(ex!).length<64 then some _ else none)=_;rw[HY ⟨nd,kN_⟩,pX d3k]
 simp[Dm,Rg,Ci,Bl,Vi,Aa,e]
def uJ{a b:f_}(h:a.Perm b)(nd:y2!):srt a=srt b:=
 lZ ls_ (gV ((h.map _).nodup_iff.mp nd)) ((bP a).trans (h.trans (bP b).symm))
def a6e{a:f_}(nd:y2!):srt (srt a)=srt a:=uJ (bP a) (((bP a).map _).nodup_iff.mpr nd)
def b8d{o:Op}(h:hJ!):At [o.v]=some pG!:=by
 have e3:Ak o.v bi!=some o.d:=by
  simp[Op.v,Ak,Dc,Ea]
 have main:∀(k:Str) (r:c!),o.d=.tup ci_->At [o.v]=some (.bl pE!):=λk r e=>by
  have e0:Ak eu_ L_=some U!:=by
   show px!;show"!d"
  have e1:∀s:Str,f2 Ba gu_ (fC aT_) [U_]=some (.bl (k==s)):=λs=>by
   show(pH!).bind y3!=_;rw[e3,e];show((Ak eu_ L_)).bind y3!=_;rw[e0];exact gU k s
  show(match Bl (Ev _ _) [U_]with|some (.rt d)=>some d|some (.nx _)=>some .non|none=>none)=_;unfold Bl Ev fT;rw[e1,e1];cases (k==Str.ofString "undo")<;>rfl
 obtain⟨k,a,e,hk,_,hu⟩|⟨k,r,e,Y,L,hu⟩:=rV h
 .rw[main k [a] e,hu];obtain rfl|rfl:=hk
  .rw[y3_];rfl
  .rw[y4!,qW];rfl
 .rw[main k r e,hu,Y,L];rfl
def Gr(f:kM!):List Op->List aD_->List aD_
 |[],acc=>acc
 |o::os,acc=>match Et o.d with
  |some (k,a)=>Gr f os (As acc a (f k))
  |none=>Gr f os acc
def wI:∀(os:f_) (A B:i!),(∀x,(kget A x=none/\kget B x=none)\/∃k:Str,kget A x=some U!/\kget B x=some fH!)->
  ∀x,(kget y4_ x=none/\kget (Gr kM_ os B) x=none)\/∃k:Str,kget y4_ x=some U!/\kget (Gr kM_ os B) x=some fH!
 |[],A,B,h=>h
 |o::os,A,B,h=>by
  unfold Gr;cases e:Et o.d with
  |none=>exact wI os A B h
  |some q=>
   obtain⟨k,a⟩:=q;refine wI os _ _ λx=>?_;by_cases c:a=x
   .subst c;rw[cV,cV];exact .inr ⟨k,rfl,rfl⟩
   .rw[cW c,cW c];exact h x
section
variable{t:Au}{M:Mh}{R:D->Mh->Prop}
def hJ{kvs:i!}{ep:Nat}(h:bW!)(hk:cl!)(hl:dz!):Lh M E! y v=some hY!:=by simp[Lh,h,hk,hl]
def a0v(h:NameG x):∃k,Db x=some k:=by obtain⟨a,b,rfl,_⟩:=h;exact L!
def d3z:Aa 1 pH_=some E!:=rfl
def a3w:∀(os:f_) (x1:D) (y:ao!) (acc:i!) (ep:Nat) (M:Mh) (R:j!),pI!->cR_+ap_<1000->M p=some pJ!->
  (∀M' bd y',M' p=some (.dct y5! bd)->kN!->R y6! M')->
  Ig bM! ae_ sF! a1! pH_ M R
 |[],x1,y,acc,ep,M,R,_,_,hp,hR=>y7!
 |o::os,x1,y,acc,ep,M,R,hd,hl,hp,hR=>by
  refine aJ!;show Av (De _) _ _ bX! M _;have ho:=hd o HQ;have et:fT (f1 At bz_) bX!=some (Et o.d).isSome:=by
   have e:f1 At bz_ bX!=some pG!:=b8d ho;unfold fT;rw[e];rfl
  simp only[IE]at hl;have e3:Ak o.v bi!=some o.d:=by simp[Op.v,Ak,Dc,Ea]
  obtain⟨k,a,e,hk,jc,hu⟩|⟨k,r,e,Y,L,hu⟩:=rV ho
  .rw[hu]at et;refine ifT et ?_;obtain⟨ka,km⟩:=a0v jc;have i0:f2 Ak a6! C! bX!=some U!:=by
    show pH!=_;rw[e3,e];show Dc [D.str k,a] 0=_;simp[Dc,Ea]
   have i1:f2 Ak a6! w! bX!=some a:=by
    show y7_;rw[e3,e];show Dc [D.str k,a] 1=_;simp[Dc,Ea]
   have dt:Lh M E! a U!=some y8!:=by
    exact hJ hp km hx_
   have:=a3w (p:=p) os x1 ez! (As acc a U!) (Gs acc a ep) y8! R hJ_ (by have:=kput_len acc a U!;omega) mup_same (λM' bd y' Y L=>hR M' bd y' y8_ λb hb=>(L b hb).trans pJ_);simp only[Cb,wl,i0,i1,d3z,dt,Dz];exact this
  .rw[hu]at et;refine iY et ?_;exact a3w (p:=p) os x1 ez! acc ep M R hJ_ a! hp y9!
def wA{f:e!}{ρ:Ae}(h:f ρ=some cd!):Ep f ρ=some ds:=by unfold Ep;rw[h];rfl
def zN{ops:f_}(nd:ex_)(hl:cN_)(hd:hK!)
  (hR:∀p M' ep,M p=none->M' p=some (.dct kO! ep)->kN!->R E! M'):Gn ck_ M R:=by
 refine j_;intro p hp;have hi:Ep iO! pK!=some hI!:=wA (nF nd hl);have bx:(be_).Perm ops:=bP ops;have:=a3w (p:=p) be_ hK_ none [] 0 eB! (λr M1=>match r with|.nx ai=>Az u! ai M1 hb_|.rt d=>R d M1) za! za_ mup_same zb!;show Ah (Df (Ia _) _ _) _ pK! _ _;simp only[Ah,Df,Ia,hi,Dz];exact this
def t2{g:bd!}{fa:WE}{fb:e!}{ρ:Ae}{K:fK_}{b:Bool}(ha:∀K':D->Mh->Prop,K' d M->fa ρ M K')(hb:fb ρ=some v)(hg:g d v=some bK_)(k:K b M):wT (w2 (λ_=>g) fa hL!) ρ M K:=by unfold wT w2;refine ha _ ?_;simp only[wl,hb,hg];exact k
def Undn(wd:i!)(o:Op):Prop:=Et o.d=none/\kget wd o.nm=some bk_
def a0e(o:Op):Bj o.v none (some 2)=some o.nm:=by simp[Op.v,Op.nm,Bj,Dk,HT.sIx]
def b1l(o:Op):∃k,Db o.nm=some k:=L!
def b2t{e0:Nat}(qz:p≠q):∀(os:f_) (x1:D) (y z:ao!) (acc:i!) (ep:Nat) (M:Mh) (R:j!),pI!->cR_+ap_<1000->M p=some (.dct wd e0)->M q=some pJ!->(∀x v,kget wd x=some v->∃k:Str,v=.str k)->
  (∀M' bd y' z' dq,M' q=some (.dct dq bd)->(∀x,kget dq x≠none↔(kget acc x≠none\/∃o∈os,o.nm=x/\Undn wd o))->zd!->R (.nx [R_,ap!,aV_,y',z']) M')->
  Ig Q_ ae_ iQ! a1! [R_,ap!,aV_,y,z] M R
 |[],x1,y,z,acc,ep,M,R,_,_,hp,hq,lg,hR=>⟨trivial,hR M ep y z acc hq zd_ λb _=>rfl⟩
 |o::os,x1,y,z,acc,ep,M,R,hd,hl,hp,hq,lg,hR=>by
  refine aJ!;show Ah (Am 4 _) _ ze! M _;have ho:=hd o HQ;simp only[IE]at hl;have es:Dp M! Aq by! ze!=some o.nm:=a0e o;simp only[Ah,Am,wl,es];show Av _ _ _ dx! M _;have et:Ct sH! dx!=some (!(Et o.d).isSome):=by
   have e:f1 At e0! dx!=some pG!:=b8d ho;unfold Ct fT;rw[e];rfl
  obtain⟨kn,gc⟩:=b1l o;have next:∀(c:Prop),(c↔Undn wd o)->∀dq bd M',M' q=some (.dct dq bd)->(∀x,kget dq x≠none↔(kget acc x≠none\/(x=o.nm/\c)))->dq.length<=cR_+1->zd!->
    Ig Q_ ae_ iQ! a1! dx! M' R:=λc hc dq bd M' Y L h3 h4=>by
   refine b2t (p:=p) (q:=q) (wd:=wd) (e0:=e0) qz os x1 _ _ dq bd M' R hJ_ a! ((h4 p qz).trans hp) Y lg λM2 ug y2 z2 acc2 g1 g2 g3=>hR M2 ug y2 z2 acc2 g1 pK_ λb hb=>(g3 b hb).trans (h4 b hb);rw[g2,L];show"!L"
   .rintro((u|⟨u1,u2⟩)|⟨o',u1,u2,u3⟩)
    .exact .inl u
    .exact .inr ⟨o,HQ,u1.symm,hc.mp u2⟩
    .exact .inr ⟨o',HL _ u1,u2,u3⟩
   .rintro(u|⟨o',u1,u2,u3⟩)
    .exact .inl (.inl u)
    .obtain rfl|u1:=HN.mp u1
     .exact .inl (.inr ⟨u2.symm,hc.mpr u3⟩)
     .exact .inr ⟨o',u1,u2,u3⟩
  have no:(¬Undn wd o)->Ig Q_ ae_ iQ! a1! dx! M R:=λh=>next False (by simp[h]) acc ep M hq zd_ a! λb _=>rfl;cases hu:Et o.d with
  |some u=>
   rw[hu]at et;simp only[Av,Gu,De,et];exact no λz=>by rw[z.1]at hu;cases hu
  |none=>
   rw[hu]at et;simp only[Av,Gu,De,et];have hg:∀(K:s_),K ze_ M->Oz u! a4_ dx! M K:=λK hK=>by
    have c1:Ee M E!=some (p,wd,e0):=by simp[Ee,hp]
    show Dz (Ee M E!) λ_=>Dz (Ee M E!) λq=>Dz (Db o.nm) λ_=>K ((kget q.2.1 o.nm).getD .non) M;rw[c1,gc];exact hK
   have hsd:Sd ze_:=by
    cases e:kget wd o.nm with
    |none=>exact .inl rfl
    |some v=>obtain⟨k,rfl⟩:=lg _ _ e;exact iP k
   have XE:(pL!).getD .non=.str "undo"↔Undn wd o:=by
    unfold Undn;rw[hu];cases e:kget wd o.nm with
    |none=>simp
    |some v=>simp
   refine t2 hg (v:=et_) rfl (lF hsd (iP _)) ?_;by_cases c:(pL!).getD .non=.str "undo"
   .rw[IV c];have dt:=hJ (y:=o.nm) (v:=gj_) hq gc hx_;have f2:Aa 2 dx!=some bS!:=rfl;have f4:Aa 4 dx!=some o.nm:=rfl;rw[k_];simp only[Cb,wl,fC,f2,f4,dt,Dz];refine next True (by simp[<-XE,c]) _ _ _ mup_same pK_ ea_ λb hb=>mup_ne hb;by_cases e:o.nm=x
    .subst e;rw[cV];simp
    .rw[cW e];simp[HR e]
   .rw[IF c];rw[W_];exact no λz=>c (XE.mpr z)
def a2e:∀(os:f_) (acc:i!),(∀x v,kget acc x=some v->∃k:Str,v=.str k)->∀x v,kget y5! x=some v->∃k:Str,v=.str k
 |[],acc,h=>h
 |o::os,acc,h=>by
  unfold Gr;cases e:Et o.d with
  |none=>exact a2e os acc h
  |some q=>
   obtain⟨k,a⟩:=q;refine a2e os _ λx v J=>?_;by_cases c:a=x
   .subst c;rw[cV]at J;cases J;exact⟨k,rfl⟩
   .rw[cW c]at J;exact h x v J
def a0b{ops:f_}(nd:ex_)(hl:cN_)(hd:hK!)
  (hR:∀q M' ep kq,M q=none->M' q=some (.dct kq ep)->(∀x,kget kq x≠none↔∃o∈ops,o.nm=x/\Undn kO! o)->kP_->R bS! M'):Ke ck_ M R:=by
 refine j_;have hc:∀(K:s_),Gn ck_ M K->Ai 1 Gn aY! zf! M K:=λK h=>cb_;refine hc _ (zN nd hl hd λp M1 ep hp hM1 fr=>?_);intro q hq;have qz:p≠q:=λz=>by rw[<-z,hM1]at hq;cases hq
 have pf:M q=none:=by rw[<-fr q (HR qz)];exact hq
 have hi:Ep n! [cO!,ap!,aV_,none,none]=some ex!:=rfl;simp only[Ah,Df,Ia,hi,Dz];refine b2t (wd:=pL_) (e0:=ep) qz ops hK_ none none [] 0 _ _ hd am! ((mup_ne qz).trans hM1) mup_same (a2e _ [] λx v h=>by simp[kget]at h) λM' bd y' z' dq Y L h3=>?_;refine hR q M' bd dq pf Y pK_ λb hb=>?_
 .rw[L];simp[kget]
 .have b1:b≠q:=λz=>hb (by rw[z];exact pf);have b2:b≠p:=λz=>hb (by rw[z];exact hp);rw[h3 b b1,mup_ne b1,fr b b2]
end
def W0:OW:=⟨[],[],λ_=>[],λ_=>[]⟩
def b5l:Rt W0 []:=by refine⟨⟨by simp[W0],dy!,by simp[W0],λx=>by simp[W0],zg!,⟨λ_=>0,zg!⟩,dy!,dy!,dy!,dy!⟩,dy!,dy!,dy!⟩
section
variable{t:Au}{M:Mh}{R:D->Mh->Prop}
def cZ(f:Str)(v:D):∀l:List ci!,(Bq f v l).length<=av!+1
 |[]=>by simp[Bq]
 |(g,x)::r=>by
  unfold Bq;split
  .simp
  .have:=cZ f v r;simp;omega
def Kp(o:x7!)(M M':Mh):Prop:=∀c,M c≠none->c≠o->M' c=M c
def Kp.trans{M M1 M2:Mh}(a:Kp o M M1)(b:Kp o M1 M2):Kp o M M2:=λc Y L=>by
 have e:=a c Y L;rw[b c (by rw[e];exact Y) L,e]
def rR{fs:aV!}{R:j!}(ho:M o=some hp_)(hl:bu_<100)
  (hR:∀a M',M a=none->M' a=some B!->M' o=some (.obj C (Bq x cE! fs))->Kp o M M'->(∀c,M' c≠none->M c≠none\/c=a)->R (.nx [D_]) M'):Fn C x h_ Gy [D_] M R:=by
 intro a ha;have oa:o≠a:=λz=>by rw[<-z,ho]at ha;cases ha
 have e:Bg M a B! o=some hp_:=(mup_ne oa).trans ho;have f0:Aa 0 [D_]=some N_:=rfl;simp only[wl,f0,e];refine⟨trivial,hl,hR a _ ha ((mup_ne (HR oa)).trans mup_same) mup_same (λc Y L=>?_) λc hc=>?_⟩
 .rw[cF!,mup_ne λz=>Y (by rw[z];exact ha)]
 .by_cases c1:c=a
  .exact .inr c1
  .by_cases c2:c=o
   .rw[c2,ho];exact .inl d!
   .rw[kQ!,mup_ne c1]at hc;exact .inl hc
def pc{fa:e!}{fb:WE}{fp:WP}{ρ:Ae}{R:z1!}(h:fa ρ=some x)(k:fb ρ M λy M2=>fp ρ M2 λkvs M3=>R ((x,y)::kvs) M3):Ek hL_ fb fp ρ M R:=by simp only[Ek,wl,h];exact k
def a3r{ρ:Ae}(hR:∀o rl M',M o=none->Cf t M' o rl W0 2->pM_->R N_ M'):Ga t.B4 1 (Ir t) Af ρ M R:=by
 refine⟨rfl,λo ho=>j_⟩;have f0:Aa 0 [D_]=some N_:=rfl;show Ah (Fn t.B4 "parents" _ _) _ [D_] zh_ _;intro a1 xt;have j1:a1≠o:=λz=>by rw[z,mup_same]at xt;cases xt
 rw[mup_ne j1]at xt;refine⟨mup_same,R!,kQ_,?_,?_⟩
 .obtain rfl|hq:=HN.mp hq
  .rfl
  .rw[HZ.mp hq];rfl
 .show(hM!).Nodup;rw[IJ];exact zi_
 have e1:Bg zj! a1 zj_ o=some zh!:=by rw[zk_,zk_,mup_same]
 simp only[wl,f0];rw[e1];refine⟨rfl,R!,?_⟩;generalize xu:Bg (Bg zj! a1 zj_) o pO!=S1;have q9:S1 o=some pO!:=by rw[<-xu,mup_same]
 have rf:S1 a1=some (.dct kS! 2):=by rw[<-xu,mup_ne j1,mup_same];rfl
 have S1m:∀c,c≠o->c≠a1->S1 c=M c:=λc Y L=>by rw[<-xu,cd_,cF!,cF!,cd_]
 clear xu e1;intro a2 rg;have j2:a2≠o:=λz=>by rw[z,q9]at rg;cases rg
 refine pc rfl ?_;refine qN λr1 f1 p1 N1 z1 z2 z3 _ _ R1 K1=>?_;refine pc rfl ?_;refine qN λr2 f2 p2 N2 y1 y2 y3 _ _ R2 K2=>?_;have l1:∀c,Bg S1 a2 B! c≠none->N1 c=Bg S1 a2 B! c:=λc hc=>K1 c (aV hc z1) (aV hc z2) (aV hc z3);have l2:∀c,N1 c≠none->N2 c=N1 c:=λc hc=>K2 c (aV hc y1) (aV hc y2) (aV hc y3);have SF:N1 a2=some B!:=by rw[l1 a2 pO_,mup_same]
 have n2a:N2 a2=some B!:=by rw[l2 a2 (by rw[SF];simp),SF]
 have SG:N1 o=S1 o:=by rw[l1 o (by rw[kS_,q9];simp),kS_]
 have n2o:N2 o=S1 o:=by rw[l2 o zm!,SG]
 refine⟨n2a,H!,kQ_,?_,?_⟩
 .obtain rfl|hq:=HN.mp hq
  .rfl
  .rw[HZ.mp hq];rfl
 .show(hM!).Nodup;rw[IJ];exact zi_
 have e2:Bg N2 a2 zn! o=some pO!:=by rw[kS_,n2o,q9]
 simp only[wl,f0];rw[e2];refine⟨rfl,by have:=cZ ed! fJ_ [];simp at this;omega,?_⟩;generalize xv:Bg (Bg N2 a2 zn!) o zo!=S2;have XF:S2 o=some zo!:=by rw[<-xv,mup_same]
 have SH:S2 a2=some (.dct kT! 2):=by rw[<-xv,mup_ne j2,mup_same];rfl
 have vf:∀c,c≠o->c≠a2->S2 c=N2 c:=λc Y L=>by rw[<-xv,cd_,cF!]
 clear xv e2;have ph:∀c,N1 c≠none->c≠r2/\c≠f2/\c≠p2:=λc hc=>⟨aV hc y1,aV hc y2,aV hc y3⟩;have v1:=R1.live;have v2:=R2.live;have nr:∀c,Bg S1 a2 B! c≠none->c≠r1/\c≠f1/\c≠p1:=λc hc=>⟨aV hc z1,aV hc z2,aV hc z3⟩;have so:Bg S1 a2 B! o≠none:=by rw[kS_,q9];simp
 have sa:Bg S1 a2 B! a2≠none:=by rw[mup_same];simp
 have SI:Kp o S1 S2:=λc hc h=>by
  have c2:c≠a2:=λz=>hc (by rw[z];exact rg);have s:Bg S1 a2 B! c≠none:=by rw[kQ!];exact hc
  have e:=l1 c s;rw[vf c h c2,l2 c (by rw[e];exact s),e,kQ!]
 refine rR (x:=hO_) XF (by have:=cZ dl! hN! fK!;have:=cZ ed! fJ_ [];simp at this;omega) λa3 S3 q3 SJ XG vg w3=>?_;refine rR (x:=pQ_) XG (by have:=cZ ed_ kU! hN_;have:=cZ dl! hN! fK!;have:=cZ ed! fJ_ [];simp at this;omega) λa4 S4 q4 SK XH rj w4=>?_;refine rR (x:="written") XH (by have:=cZ fk_ (.fn a4) pR!;have:=cZ ed_ kU! hN_;have:=cZ dl! hN! fK!;have:=cZ ed! fJ_ [];simp at this;omega) λa5 S5 q5 SL XI pi w5=>?_;refine rR (x:="hidden") XI (by have:=cZ oj! (.fn a5) zq_;have:=cZ fk_ (.fn a4) pR!;have:=cZ ed_ kU! hN_;have:=cZ dl! hN! fK!;have:=cZ ed! fJ_ [];simp at this;omega) λa6 S6 q6 S6a SM XJ w6=>?_;have hob:Bq v7! (.fn a6) (Bq oj! (.fn a5) zq_)=oF a1 a2 a3 a4 a5 a6:=by kernel_rfl
 rw[hob]at SM;have XN:=pi.trans XJ;have XO:=rj.trans XN;have xw:=vg.trans XO;have XQ:=SI.trans xw;have lo:∀{N:Mh} {c:x7!} {x:Pj},N c=some x->N c≠none:=λh=>by rw[h];simp
 have o3:a3≠o:=λz=>by rw[z,XF]at q3;cases q3
 have o4:a4≠o:=λz=>by rw[z,XG]at q4;cases q4
 have o5:a5≠o:=λz=>by rw[z,XH]at q5;cases q5
 have o6:a6≠o:=λz=>by rw[z,XI]at q6;cases q6
 have F1:S6 a1=some (.dct kS! 2):=(XQ a1 (lo rf) j1).trans rf;have F2:S6 a2=some (.dct kT! 2):=(xw a2 (lo SH) j2).trans SH;have F3:S6 a3=some B!:=(XO a3 (lo SJ) o3).trans SJ;have F4:S6 a4=some B!:=(XN a4 (lo SK) o4).trans SK;have F5:S6 a5=some B!:=(XJ a5 (lo SL) o5).trans SL;have F6:=S6a;have SN:∀c,N1 c≠none->c≠o->c≠a2->S6 c=N1 c:=λc hc Y L=>by
  have e:=l2 c hc;have e':=vf c Y L;rw[xw c (by rw[e',e];exact hc) Y,e',e]
 have SO:∀c,N2 c≠none->c≠o->c≠a2->S6 c=N2 c:=λc hc Y L=>by
  have e':=vf c Y L;rw[xw c (by rw[e'];exact hc) Y,e']
 have rm:=nr o so;have rq:=nr a2 sa;have Q1:Ej t S6 r1 f1 p1 []:=R1.keep (SN _ v1.1 (HR rm.1) (HR rq.1)) (SN _ v1.2.1 (HR rm.2.1) (HR rq.2.1)) (SN _ v1.2.2 (HR rm.2.2) (HR rq.2.2));have mo:=ph o zm!;have ma:=ph a2 (lo SF);have Q2:Ej t S6 r2 f2 p2 []:=R2.keep (SO _ v2.1 (HR mo.1) (HR ma.1)) (SO _ v2.2.1 (HR mo.2.1) (HR ma.2.1)) (SO _ v2.2.2 (HR mo.2.2) (HR ma.2.2))
 let rl:Addr->Nw:=λc=>if c=o then .ob else if c=a1 then .par else if c=a2 then .rows else if c=a3 then .texts else if c=a4 then .nums else if c=a5 then .writ else if c=a6 then .hid else if c=r1 then .rO root else if c=f1 then .rF root else if c=p1 then .rP root else if c=r2 then .rO binn else if c=f2 then .rF binn else if c=p2 then .rP binn else .oth
 have dead:∀c,M c≠none->S6 c=M c/\c≠o/\c≠a1/\c≠a2/\c≠a3/\c≠a4/\c≠a5/\c≠a6/\w7_/\(c≠r2/\c≠f2/\c≠p2):=λc hc=>by
  have c0:c≠o:=aV hc ho;have c1:c≠a1:=aV hc xt;have s1:S1 c=M c:=S1m c c0 c1;have vh:S1 c≠none:=by rw[s1];exact hc
  have c2:c≠a2:=aV vh rg;have s2:S2 c≠none:=by rw[SI c vh c0];exact vh
  have c3:c≠a3:=aV s2 q3;have s3:S3 c≠none:=by rw[vg c s2 c0];exact s2
  have c4:c≠a4:=aV s3 q4;have s4:S4 c≠none:=by rw[rj c s3 c0];exact s3
  have c5:c≠a5:=aV s4 q5;have s5:S5 c≠none:=by rw[pi c s4 c0];exact s4
  have c6:c≠a6:=aV s5 q6;have sm:Bg S1 a2 B! c≠none:=by rw[kQ!];exact vh
  have n1:N1 c≠none:=by rw[l1 c sm];exact sm
  exact⟨(XQ c vh c0).trans s1,c0,c1,c2,c3,c4,c5,c6,nr c sm,ph c n1⟩
 refine⟨trivial,hR o rl S6 ho ⟨a1,a2,a3,a4,a5,a6,kS!,kT!,[],[],[],[],?_⟩ λb hb=>?_⟩
 .have g0:rl o=.ob:=HY rfl;have al1:S6 a1≠none:=lo F1;have g1:rl a1=.par:=by show(if a1=o then _ else _)=_;rw[HP j1,k_]
  have XR:a2≠a1:=λz=>by rw[z,rf]at rg;cases rg
  have g2:rl a2=.rows:=by show(if a2=o then _ else _)=_;rw[HP j2,HP XR,k_]
  have SQ:S2 a1≠none:=by rw[SI a1 (lo rf) j1];exact lo rf
  have SS:S2 a2≠none:=lo SH;have a31:=HR (aV SQ q3);have SA:=HR (aV SS q3);have g3:rl a3=.texts:=by show(if a3=o then _ else _)=_;rw[HP o3,HP a31,HP SA,k_]
  have SU:S3 a1≠none:=by rw[vg a1 SQ j1];exact SQ
  have SV:S3 a2≠none:=by rw[vg a2 SS j2];exact SS
  have SW:S3 a3≠none:=lo SJ;have g4:rl a4=.nums:=by show(if a4=o then _ else _)=_;rw[HP o4,HP (HR (aV SU q4)),HP (HR (aV SV q4)),HP (HR (aV SW q4)),k_]
  have SX:S4 a1≠none:=by rw[rj a1 SU j1];exact SU
  have SY:S4 a2≠none:=by rw[rj a2 SV j2];exact SV
  have SZ:S4 a3≠none:=by rw[rj a3 SW o3];exact SW
  have S':S4 a4≠none:=lo SK;have g5:rl a5=.writ:=by show(if a5=o then _ else _)=_;rw[HP o5,HP (HR (aV SX q5)),HP (HR (aV SY q5)),HP (HR (aV SZ q5)),HP (HR (aV S' q5)),k_]
  have t51:S5 a1≠none:=by rw[pi a1 SX j1];exact SX
  have t52:S5 a2≠none:=by rw[pi a2 SY j2];exact SY
  have t53:S5 a3≠none:=by rw[pi a3 SZ o3];exact SZ
  have t54:S5 a4≠none:=by rw[pi a4 S' o4];exact S'
  have t55:S5 a5≠none:=lo SL;have g6:rl a6=.hid:=by show(if a6=o then _ else _)=_;rw[HP o6,HP (HR (aV t51 q6)),HP (HR (aV t52 q6)),HP (HR (aV t53 q6)),HP (HR (aV t54 q6)),HP (HR (aV t55 q6)),k_]
  have XS:∀c,S2 c≠none->c≠o->c≠a3/\c≠a4/\c≠a5/\c≠a6:=λc L co=>by
   have s3:S3 c≠none:=by rw[vg c L co];exact L
   have s4:S4 c≠none:=by rw[rj c s3 co];exact s3
   have s5:S5 c≠none:=by rw[pi c s4 co];exact s4
   exact⟨aV L q3,aV s3 q4,aV s4 q5,aV s5 q6⟩
  have u1:∀c,N1 c≠none->c≠o->c≠a2->S2 c≠none:=λc hc Y L=>by rw[vf c Y L,l2 c hc];exact hc
  have u2:∀c,N2 c≠none->c≠o->c≠a2->S2 c≠none:=λc hc Y L=>by rw[vf c Y L];exact hc
  have TB:Bg S1 a2 B! a1≠none:=by rw[mup_ne (HR XR)];exact lo rf
  have TC:=nr a1 TB;have TD:=ph a1 (by rw[l1 a1 TB];exact TB);have TF:∀c,N1 c≠none->c≠o->c≠a1->c≠a2->rl c=if c=r1 then .rO root else if c=f1 then .rF root else if c=p1 then .rP root else if c=r2 then .rO binn else if c=f2 then .rF binn else if c=p2 then .rP binn else .oth:=λc hc h0 Y L=>by
   obtain⟨x3,x4,x5,x6⟩:=XS c (u1 c hc h0 L) h0;show"#*"
  have TH:∀c,N2 c≠none->c≠o->c≠a1->c≠a2->rl c=if c=r1 then .rO root else if c=f1 then .rF root else if c=p1 then .rP root else if c=r2 then .rO binn else if c=f2 then .rF binn else if c=p2 then .rP binn else .oth:=λc hc h0 Y L=>by
   obtain⟨x3,x4,x5,x6⟩:=XS c (u2 c hc h0 L) h0;show"#*"
  have h7:rl r1=.rO root:=by rw[TF r1 v1.1 (HR rm.1) (HR TC.1) (HR rq.1),k_]
  have h8:rl f1=.rF root:=by rw[TF f1 v1.2.1 (HR rm.2.1) (HR TC.2.1) (HR rq.2.1),HP (HR R1.rne.1),k_]
  have h9:rl p1=.rP root:=by rw[TF p1 v1.2.2 (HR rm.2.2) (HR TC.2.2) (HR rq.2.2),HP (HR R1.rne.2),HP (HR R1.ne),k_]
  have b1:=ph r1 v1.1;have b2:=ph f1 v1.2.1;have b3:=ph p1 v1.2.2;have h10:rl r2=.rO binn:=by rw[TH r2 v2.1 (HR mo.1) (HR TD.1) (HR ma.1),HP (HR b1.1),HP (HR b2.1),HP (HR b3.1),k_]
  have h11:rl f2=.rF binn:=by rw[TH f2 v2.2.1 (HR mo.2.1) (HR TD.2.1) (HR ma.2.1),HP (HR b1.2.1),HP (HR b2.2.1),HP (HR b3.2.1),HP (HR R2.rne.1),k_]
  have h12:rl p2=.rP binn:=by rw[TH p2 v2.2.2 (HR mo.2.2) (HR TD.2.2) (HR ma.2.2),HP (HR b1.2.2),HP (HR b2.2.2),HP (HR b3.2.2),HP (HR R2.rne.2),HP (HR R2.ne),k_]
  have kr:kget pP_ root=some (.fn r1):=by show zz_=_;rw[k_]
  have kb:kget pP_ binn=some (.fn r2):=by
   show zA!;rw[HP b3m,k_]
  have kr':kget pN! root=some .non:=by show zz_=_;rw[k_]
  have kb':kget pN! binn=some .non:=by
   show zA!;rw[HP b3m,k_]
  exact{
      ob:=SM,d1:=⟨_,F1⟩,d2:=⟨_,F2⟩,d3:=⟨_,F3⟩,d4:=⟨_,F4⟩,d5:=⟨_,F5⟩,d6:=⟨_,F6⟩
      ro:=g0,r1:=g1,r2:=g2,r3:=g3,r4:=g4,r5:=g5,r6:=g6
      p0:=⟨kr',kb'⟩
      pr:=λi p h=>zf_
      row:=λx J=>by
       obtain J|rfl|rfl:=J
       .simp[W0]at J
       .exact⟨r1,f1,p1,kr,Q1,h7,h8,h9⟩
       .exact⟨r2,f2,p2,kb,Q2,h10,h11,h12⟩
      rown:=λx J=>by
       unfold Ew at J;rw[ON,ON]at J;show(if root=x then _ else(if binn=x then _ else _))=_;rw[HP (HR J.2.1),HP (HR J.2.2)];rfl
      txt:=λx J=>fJ!
      txtn:=λx _=>rfl
      num:=λx J=>fJ!
      wr:=λx J=>fJ!
      hi:=λx J=>fJ!
      hk:=λs hs=>(by simp[kget]at hs)
      l1:=by simp,l2:=by simp,l3:=by simp,l4:=by simp,l5:=by simp,l6:=by simp,lr:=by simp[W0],lt:=λx J=>fJ!
      live:=λc hc=>by
       by_cases y0:c=o
       .rw[y0];exact lo SM
       by_cases u6:c=a1
       .rw[u6];exact lo F1
       by_cases u7:c=a2
       .rw[u7];exact lo F2
       by_cases k8:c=a3
       .rw[k8];exact lo F3
       by_cases k9:c=a4
       .rw[k9];exact lo F4
       by_cases oy:c=a5
       .rw[oy];exact lo F5
       by_cases u8:c=a6
       .rw[u8];exact lo F6
       by_cases u9:c=r1
       .rw[u9];exact Q1.live.1
       by_cases XT:c=f1
       .rw[XT];exact Q1.live.2.1
       by_cases XU:c=p1
       .rw[XU];exact Q1.live.2.2
       by_cases XV:c=r2
       .rw[XV];exact Q2.live.1
       by_cases XW:c=f2
       .rw[XW];exact Q2.live.2.1
       by_cases XX:c=p2
       .rw[XX];exact Q2.live.2.2
       exfalso;apply hc;show pT_=_;rw[HP y0,HP u6,HP u7,HP k8,HP k9,HP oy,HP u8,HP u9,HP XT,HP XU,HP XV,HP XW,HP XX]}
 .obtain⟨d1,d2,d3,d4,d5,d6,d7,d8,d9,TJ⟩:=dead b hb;refine⟨d1,?_⟩;show(if b=o then _ else _)=_;rw[HP d2,HP d3,HP d4,HP d5,HP d6,HP d7,HP d8,HP d9.1,HP d9.2.1,HP d9.2.2,HP TJ.1,HP TJ.2.1,HP TJ.2.2]
end
def c0s{α β:Type}{f:lr_}:∀{l:P_},(eH_).Nodup->∀{x y:α},x∈l->y∈l->f x=f y->x=y
 |[],_,_,_,h,_,_=>by cases h
 |a::l,nd,x,y,J,hy,e=>by
  rw[HV,IJ]at nd;obtain Y|Y:=HN.mp J<;>obtain L|L:=HN.mp hy
  .rw[Y,L]
  .exact absurd (by rw[<-Y,e];exact IB L) nd.1
  .exact absurd (by rw[<-L,<-e];exact IB Y) nd.1
  .exact c0s nd.2 Y L e
inductive Run:OW->List Op->OW->Prop
 |nil {W:OW}:Run W [] W
 |cons {W W1 W2:OW} {o:Op} {os:f_}:Stp W o.nm o.d W1->Run W1 os W2->Run W hR_ W2
def Jf(wd:i!)(os:f_):List Op:=os.filter λo=>decide (Et o.d=none/\¬kget wd o.nm=some bk_)
section
variable{t:Au}{M:Mh}{R:D->Mh->Prop}
def EX(t:Au):WS:=Ah gv_ sR!
def b3t{e0:Nat}{ops:f_}(hq:∀x∈ops,kget kq x.nm≠none↔Undn wd x):∀(os:f_) (x1:D) (y z:ao!) (M:Mh) (rl:bo!) (W W':OW) (pre:c!) (B:Nat) (R:j!),
  (∀x∈os,x∈ops/\DG x.d)->zD!->(kY_).Nodup->Cf t M o rl W B->Rt W pre->Run W pV_ W'->B+20*ap_<3900->M q=some (.dct kq e0)->rl q=.oth->
  (∀M' ac y' z',Cf t M' o ac W' (B+20*ap_)->zD_->Fr M rl M' ac->R (.nx [R_,D_,aV_,y',z']) M')->
  Ig Q_ ae_ (EX t) a1! [R_,D_,aV_,y,z] M R
 |[],x1,y,z,M,rl,W,W',pre,B,R,_,_,_,hO,w,hr,_,_,_,hR=>by
  cases hr;exact⟨trivial,hR M rl y z hO ⟨pre,w⟩ .refl⟩
 |x::os,x1,y,z,M,rl,W,W',pre,B,R,hd,hp,nd,hO,w,hr,hB,pf,j0,hR=>by
  refine aJ!;show Ah (Am 4 _) _ zE! M _;obtain⟨J,jr⟩:=hd x HQ;simp only[IE]at hB hR;rw[HV,IJ]at nd;have es:Dp M! Aq by! zE!=some x.nm:=a0e x;simp only[Ah,Am,wl,es];obtain⟨kn,gc⟩:=b1l x;have vj:Ib true M x.nm bS!=some (.bl (!(kget kq x.nm).isSome)):=by simp[Ib,pf,gc]
  have f4:Aa 4 eA_=some x.nm:=rfl;have vk:Aa 2 eA_=some bS!:=rfl;have f1':Aa 1 eA_=some N_:=rfl;have f3':f2 Ak M! al_ eA_=some x.d:=by
   show Ak x.v bi!=_;simp[Op.v,Ak,Dc,Ea]
  show Av sP_ _ _ eA_ M _;simp only[Av,wT,w2,wl,f4,vk,vj];have hu:=hq x J;have rest:∀(M1:Mh) (dm:bo!) (W1:OW) (xx:c!),Cf t M1 o dm W1 bq!->Rt W1 xx->(∀y∈os,y.nm∉xx)->Run W1 pV_ W'->Fr M rl M1 dm->Ig Q_ ae_ (EX t) a1! eA_ M1 R:=λM1 dm W1 xx Y L h3 h4 h5=>
   b3t (o:=o) (q:=q) (kq:=kq) (wd:=wd) (e0:=e0) hq os x1 pW! (some x.nm) M1 dm W1 W' xx bq! R pW_ h3 nd.2 Y L h4 a! ((zF_).1.trans pf) (zF_).2 (λM' ac y' z' g1 g2 g3=>hR M' ac y' z' (by rw[zG!];exact g1) g2 (h5.trans g3))
  by_cases c:kget kq x.nm=none
  .rw[c,g2!];have hc:∀(K:s_),Nt t [bc_,x.nm,x.d] M K->Ai 3 (Nt t) sQ_ eA_ M K:=λK h=>by
    simp only[Ai,Ab,Af,wl,f1',f4,f3'];exact cb_
   refine hW (hc _ ?_);obtain⟨k,a,e,hk,_,xy⟩|⟨k,r,e,_,_,xy⟩:=rV jr
   .have:Jf wd hS!=Jf wd os:=by unfold Jf;rw[JQ (by simp[xy])]
    rw[this]at hr;rw[e];exact c4u hk (rest M rl W pre oF! w pX! hr .refl)
   .have b8:¬kget wd x.nm=some bk_:=λz=>absurd c (hu.mpr ⟨xy,z⟩);have:Jf wd hS!=x::Jf wd os:=by unfold Jf;rw[JY (by simp[xy,b8])]
    rw[this]at hr;cases hr with
    |cons hs hr=>
     have w1:=a2h hs w kZ_;refine c4t hO w kZ_ hs a! λM1 dm Y L=>rest M1 dm _ _ Y w1 zG_ hr L;obtain z|z:=HX.mp z
     .exact hp y eb! z
     .rw[HZ]at z;exact nd.1 zH!
  .have hU:=hu.mp c;obtain⟨v,hv⟩:=Option.ne_none_iff_exists'.mp c;rw[hv,W_];unfold Bn;have:Jf wd hS!=Jf wd os:=by unfold Jf;rw[JQ (by simp[hU.1,hU.2])]
   rw[this]at hr;exact rest M rl W pre oF! w pX! hr .refl
def Cf.live{rl:bo!}{B:Nat}(h:aA_)(hb:rl b≠.oth):M b≠none:=by obtain⟨_,_,_,_,_,_,_,_,_,_,_,_,hA⟩:=h;exact hA.live b hb
def Cf.keep{M':Mh}{rl:bo!}{B:Nat}(hO:aA_)(k:pX_):Cf t M' o rl W B:=by
 obtain⟨a1,a2,a3,a4,a5,a6,k1,k2,k3,k4,k5,k6,hA⟩:=hO;refine⟨a1,a2,a3,a4,a5,a6,k1,k2,k3,k4,k5,k6,{hA with ob:=?_,d1:=?_,d2:=?_,d3:=?_,d4:=?_,d5:=?_,d6:=?_,row:=?_,txt:=?_,num:=?_,live:=?_}⟩
 .rw[k o O!];exact hA.ob
 .rw[k a1 bT!];exact hA.d1
 .rw[k a2 aB!];exact hA.d2
 .rw[k a3 aZ_];exact hA.d3
 .rw[k a4 a0!];exact hA.d4
 .rw[k a5 aS!];exact hA.d5
 .rw[k a6 aB_];exact hA.d6
 .intro x J;obtain⟨r',f',p',v1,v2,v3,v4,v5⟩:=hA.row x J;exact zH_
 .intro x J;obtain⟨r',f',p',v1,v2,v3,v4,v5⟩:=hA.txt x J;exact zH_
 .intro x J;obtain⟨q',v1,v2,v3⟩:=hA.num x J;exact⟨q',v1,(k _ bG!).trans v2,v3⟩
 .intro b hb;rw[k b hb];show"#%"
def b6i{ops:f_}(nd:ex_)(nn:zI_)(hl:cN_)(hd:hK!)(hr:Run W0 fM_ W')
  (hR:∀o M' ac,M o=none->Cf t M' o ac W' 1500->zJ!->(∀b,M b≠none->M' b=M b/\ac b=.oth)->R N_ M'):Kg t ck_ M R:=by
 refine j_;show Ah sP! _ zf! M _;simp only[Ah,Am];refine a3r λo rl M1 ho hO fr=>?_;have hc:∀(K:s_),Ke ck_ M1 K->Ai 1 Ke aY! [cO!,D_,none,none,none] M1 K:=λK h=>cb_;refine hc _ (a0b nd hl hd λq M2 ep kq hq f8 pe pj=>?_);have hi:Ep iO! zJ_=some hI!:=wA (nF nd hl);show Df (Ia _) _ (EX t) zJ_ M2 _;simp only[Df,Ia,hi,Dz];have hp:(be_).Perm ops:=bP ops;have j0:rl q=.oth:=by
  by_cases z:rl q=.oth
  .exact z
  .obtain⟨_,_,_,_,_,_,_,_,_,_,_,_,hA⟩:=hO;exact absurd hq (hA.live q z)
 have hO2:Cf t M2 o rl W0 2:=hO.keep λc hc=>pj c (hO.live hc);have xr:∀x∈ops,kget kq x.nm≠none↔Undn kO! x:=λx J=>by
  rw[pe];show"!L"
  .rintro⟨y,hy,e,hu⟩;have:y=x:=c0s nn hy J e;rw[<-this];exact hu
  .exact λh=>⟨x,J,rfl,h⟩
 refine b3t (t:=t) (wd:=pL_) (e0:=ep) (ops:=ops) xr be_ hK_ none none M2 rl W0 W' [] 2 _ (λx J=>⟨hp.mem_iff.mp J,hd x zK!⟩) zK_ zL! hO2 b5l hr k2! f8 j0 λM' ac y' z' g1 g2 g3=>?_;refine hR o M' ac ho (g1.mono k2!) g2 λb hb=>?_;obtain⟨e1,e2⟩:=fr b hb;have e3:=pj b ok!;have g4:=g3 b zL_ e2;exact⟨by rw[g4.1,e3,e1],g4.2⟩
def c1z(o:Op):∀{l:f_},Ot Op.key l->∃u v,l=u++v/\Rn Op.key o l=u++o::v/\(∀x∈u,Lj o.key x.key=false)/\∀x∈v,Lj o.key x.key=true
 |[],_=>⟨[],[],rfl,rfl,H!,H!⟩
 |y::l,h=>by
  unfold Ot at h;rw[KG]at h;unfold Rn;cases e:Lj o.key y.key with
  |true=>
   rw[k_];refine⟨[],y::l,rfl,rfl,H!,aG_⟩;obtain rfl|J:=HN.mp J
   .exact e
   .exact jZ e (h.1 x J)
  |false=>
   rw[W_];obtain⟨u,v,e1,e2,e3,e4⟩:=c1z o h.2;refine⟨y::u,v,by rw[e1];rfl,by rw[e2];rfl,aG_,e4⟩;obtain rfl|J:=HN.mp J
   .exact e
   .exact e3 x J
def d4q(a b c d:Int):HT.lexLt aq! [c,d]=Lj ab! (c,d):=by
 rw[LS,qR,HT.lexLt_cons];by_cases h:a=c
 .rw[HY h,HT.lexLt_cons];by_cases h':b=d
  .rw[HY h'];simp[HT.lexLt_nil_nil];omega
  .rw[HP h',JA];show"#.";omega
 .rw[HP h,JA];show"#.";omega
def Zs(l:f_)(o:Op):Nat->Bool
 |0=>false
 |j+1=>match l[j]? with|some f=>Lj o.key f.key|none=>false
def CG:Ae->Option Bool:=Cz ui! ui_
def b3z{l:f_}{o:Op}{k:Nat}(hk:k<=av!):CG [O_,zM!,U_,k2_]=some (Zs l o k):=by
 cases k with
 |zero=>simp[CG,Cz,fT,f2,Aa,fC,Mo,Ch,Zs]
 |succ j=>
  have hj:j<av!:=hk;have e1:l[j]?=some l[j]:=II hj;have e2:Dc pZ! pZ_=some (cn_).v:=by
   show"#&";simp[hj]
  have e3:Mg 1 jc! p0_=some (cn_).v:=by
   have:zM_ - 1=(j:Nat):=by omega
   simp[Mg,f2,Aa,fC,Ds,Ch,this,e2]
  have e4:Ak (cn_).v bx_=some (.int (cn_).tm):=by simp[Op.v,Ak,Dc,Ea]
  have e5:Ak (cn_).v L_=some (.int (cn_).h):=by simp[Op.v,Ak,Dc,Ea]
  have e6:Ak o.v bx_=some fO!:=by simp[Op.v,Ak,Dc,Ea]
  have e7:Ak o.v L_=some cP_:=by simp[Op.v,Ak,Dc,Ea]
  have e8:BE (.tup [.int (cn_).tm,.int (cn_).h]) y1!=some (.bl (Lj o.key (cn_).key)):=by
   simp[BE,Nl,d4q,Op.key]
  have e9:Mo p0! L_=some z_:=by simp[Mo,Ch]
  have f3:Aa 3 p0_=some p0!:=rfl;have vk:Aa 2 p0_=some o.v:=rfl;simp only[CG,Cz,fT,f2,f3,fC,MN,e9,Aw,Ac,Ag,e3,e4,e5,vk,e6,e7,JT,IE,LP,show(0+1+1:Nat)<=1000 by omega,e8,Zs,e1]
def a7g{o:Op}{u v:f_}(Y:∀x∈u,Lj o.key x.key=false)(L:∀x∈v,Lj o.key x.key=true)(R:j!)(hR:R (.nx k3!) M):
  ∀(m:Nat),m<=v.length->∃n,Dd (De CG) ns_ n [O_,p2!,U_,some (.int p3_)] M R
 |0,hm=>by
  refine fn!;have et:=b3z (x0:=x0) (o:=o) (l:=u++v) (k:=bZ!) d!;have ef:Zs bn_ o bZ!=false:=by
   cases hu:bZ! with
   |zero=>rfl
   |succ j=>
    have:bn_[j]?=some (u[j]' a!):=by rw[KA a!,II a!]
    simp only[Zs,this];exact Y _ hT_
  rw[ef]at et;simp only[Dd,De,Nat.add_zero,et];exact hR
 |m+1,hm=>by
  obtain⟨n,hn⟩:=a7g Y L R hR m a!;refine⟨n+1,?_⟩;have et:=b3z (x0:=x0) (o:=o) (l:=u++v) (k:=bZ!+(m+1)) am!;have ef:Zs bn_ o (bZ!+(m+1))=true:=by
   show Zs bn_ o (bZ!+m+1)=true;have:bn_[bZ!+m]?=some (v[m]' a!):=by rw[JM a!,show u.length+m - u.length=m by omega,II a!]
   simp only[Zs,this];exact L _ hT_
  rw[ef]at et;have es:f2 Ds M! w! [O_,p2!,U_,some (.int p4!)]=some (.int p3_):=by
   have:p4! - 1=p3_:=by omega
   show Ds (.int p4!) aN_=_;simp only[Ds,Ch,this]
  simp only[Dd,De,et,JT,Am,wl,es];exact hn
def FZ:WS:=Ah uh_ (Ah (Ic (De CG) ns_) uj!)
def b4a:∀(os:f_) (x0:D) (y z:ao!) (acc:f_) (R:j!),Ot Op.key acc->((acc++os).map Op.key).Nodup->cR_+ap_<1000->
  (∀dq y' z',Ot Op.key dq->dq.Perm (acc++os)->R (.nx [O_,some (.lst (dq.map Op.v)),y',z']) M)->Ig bM! ae_ FZ a1! [O_,hU!,y,z] M R
 |[],x0,y,z,acc,R,hs,nd,hl,hR=>⟨trivial,hR acc y z hs d!⟩
 |o::os,x0,y,z,acc,R,hs,nd,hl,hR=>by
  refine aJ!;show Ah (Am 3 _) _ p4_ M _;obtain⟨u,v,e1,e2,e3,e4⟩:=c1z o hs;simp only[IE]at hl;have el:Oq iD! p4_=some zQ!:=by
   have:f1 Bp dP! p4_=some zQ!:=by
    show Bp [.lst zP!]=_;simp[Bp]
   unfold Oq;rw[this];rfl
  simp only[Ah,Am,wl,el];have ap:cR_=bZ!+v.length:=by rw[e1,IG]
  rw[ap,e1];refine a7g e3 e4 _ ?_ v.length y!;have ei:Xe 1 M! x! k3!=some (.nx [O_,some (.lst ((k4_).map Op.v)),U_,some p3!]):=by
   have:(bn_).length<big:=by unfold big;rw[IG];omega
   have e3:Aa 3 k3!=some p3!:=rfl;have e2:Aa 2 k3!=some o.v:=rfl;unfold Xe;rw[e3,e2];show(if 0<=(p2_:Int)/\(p2_:Int).toNat<=(p1_).length/\(p1_).length<big then _ else none)=_;rw[HY ⟨v!,H!,by rw[IK];exact this⟩];simp
  simp only[Wh,ei,Dz];have hp:(k4_).Perm (acc++[o]):=by rw[e1];simpa using(List.perm_middle (a:=o) (l₁:=u) (l₂:=v)).trans (List.perm_append_comm (l₁:=[o]) (l₂:=u++v))
  have b6:Ot Op.key k4_:=by
   rw[<-e2];refine yO hs λy hy=>?_;rw[IU,IY]at nd;exact λz=>nd.2.2 _ (IB hy) o.key d! z.symm
  have f9:((u++o::v++os).map Op.key).Nodup:=by
   have:(u++o::v++os).Perm (acc++o::os):=by
    have:=hp.append_right os;simpa using this
   exact(this.map _).nodup_iff.mpr nd
  exact b4a os x0 _ _ k4_ R b6 f9 (by have:=hp.length_eq;simp at this;simp;omega) λdq y' z' Y L=>hR dq y' z' Y (L.trans (by have:=hp.append_right os;simpa using this))
def xG{ops:f_}(nd:ex_)(hl:cN_)(hR:R (.lst hI!) M):Fy ck_ M R:=by
 refine j_;show Ah iH! (Ah (Df (Ia eZ_) bM! FZ) cv_) zR! M _;have e1:Mu 1 Ag zR!=some (.nx zR_):=by simp[Mu,Ag]
 have e2:Ep n! zR_=some ex!:=rfl;simp only[Ah,Wh,e1,Dz,Df,Ia,e2];refine b4a ops _ none none [] _ (jw_) (by simpa using nd) am! λdq y' z' Y L=>?_;have:dq=srt ops:=lZ Y ls_ (by simpa using L.trans (by simpa using(bP ops).symm));rw[this];exact hR
def rG{neg:Bool}:Ib neg M U! o7!=some (.bl (if neg then ! o7_ else o7_)):=by show Ib.inS neg M U! o7!=_;simp[Ib.inS,Su,Bi,By,Il,Dq,a5d]
def GB:WS:=Av uk_ ul! Bn
def d3x{o:Op}(ho:hJ!):∃k r,o.d=.tup ci_/\(Et o.d=none->hH_=false/\(k=="redo")=false)/\(∀u,Et o.d=some u->r=[u.2]/\k=u.1/\y0_/\NameG u.2):=by
 obtain⟨k,a,e,hk,jc,hu⟩|⟨k,r,e,Y,L,hu⟩:=rV ho
 .exact⟨k,[a],e,(λz=>by rw[z]at hu;cases hu),(λu mj=>by rw[hu]at mj;cases mj;exact⟨rfl,rfl,hk,jc⟩)⟩
 .exact⟨k,r,e,(λ_=>p6_),(λu mj=>by rw[hu]at mj;cases mj)⟩
def c1t{o:Op}(e:o.d=.tup ci_):pH!=some U!:=by
 have e3:Ak o.v bi!=some o.d:=by simp[Op.v,Ak,Dc,Ea]
 rw[e3,e];show Dc (D.str k::r) 0=_;show"!d"
def b2s{k:Str}(hk:yT_):p7!=true:=by
 obtain rfl|rfl:=hk
 .rw[y3_];rfl
 .rw[y4!];simp
def a3x:∀(os:f_) (x1:D) (y:ao!) (acc:i!) (ep:Nat) (M:Mh) (R:j!),pI!->cR_+ap_<1000->M p=some pJ!->
  (∀M' bd y',M' p=some (.dct (Gr kM_ os acc) bd)->kN!->R y6! M')->
  Ig bM! ae_ GB a1! pH_ M R
 |[],x1,y,acc,ep,M,R,_,_,hp,hR=>y7!
 |o::os,x1,y,acc,ep,M,R,hd,hl,hp,hR=>by
  refine aJ!;show GB bX! M _;show Av _ _ _ bX! M _;have ho:=hd o HQ;simp only[IE]at hl;obtain⟨k,r,e,hn,hs⟩:=d3x ho;have i0:f2 Ak a6! C! bX!=some U!:=c1t e;simp only[Av,wT,w2,wl,i0,fC,rG];cases hu:Et o.d with
  |none=>
   obtain⟨Y,L⟩:=hn hu;have:p7!=false:=by rw[zT_,p7_,Y,L];rfl
   rw[this];exact a3x (p:=p) os x1 ez! acc ep M R hJ_ a! hp y9!
  |some u=>
   obtain⟨g1,g2,hk,jc⟩:=hs u hu;rw[b2s hk];obtain⟨ka,km⟩:=a0v jc;have i1:f2 Ak a6! w! bX!=some u.2:=by
    have e3:Ak o.v bi!=some o.d:=by simp[Op.v,Ak,Dc,Ea]
    show y7_;rw[e3,e,g1];show Dc [D.str k,u.2] 1=_;simp[Dc,Ea]
   have i2:f2 Ba gv! eY! bX!=some fH!:=by
    show(f2 Ak a6! C! bX!).bind (λx=>Ba x bk_)=_;rw[i0];exact gU k _
   have dt:=hJ (y:=u.2) (v:=.bl hH_) hp km hx_;have:=a3x (p:=p) os x1 ez! zW! zW_ (Bg M p (.dct zW! zW_)) R hJ_ (by have:=kput_len acc u.2 fH!;omega) mup_same (λM' bd y' Y L=>hR M' bd y' (by
    unfold Gr;rw[hu];obtain⟨u1,u2⟩:=u;dsimp only at g2 Y ⊢;rw[<-g2];exact Y) λb hb=>(L b hb).trans pJ_)
   rw[g2!];simp only[Cb,wl,i1,i2,d3z,dt,Dz];exact this
def b1q{ops:f_}(nd:ex_)(hl:cN_)(hd:hK!)
  (hR:∀p M' ep,M p=none->M' p=some (.dct (Gr kM_ be_ []) ep)->kN!->R E! M'):Mp ck_ M R:=by
 refine j_;intro p hp;have bx:(be_).Perm ops:=bP ops;have hc:∀(K:s_),Fy ck_ eB! K->Ai 1 Fy aY! pK! eB! K:=λK h=>cb_;simp only[Ah,Df,Bw];refine hc _ (xG nd hl ?_);exact a3x (p:=p) be_ hK_ none [] 0 eB! _ za! za_ mup_same zb!
end
def Bh(q:D×D):D:=.tup [q.1,q.2]
def Be(q:fk!):D:=.tup zX_
inductive LR
 |w|wt|wn|q (x:D)|oth
nonrec def k3(rows wt wn:D):List aD_:=[(.str "rows",rows),(.str "texts",wt),(.str "numbers",wn)]
section
variable{a b c v:D}
def c7e:¬(D.str dl!=D.str ed_):=λz=>absurd k6! k!
def c7f:¬(D.str dl!=D.str fk_):=λz=>absurd k6! k!
def c7b:¬(D.str ed_=D.str fk_):=λz=>absurd k6! k!
def k3r:kget hV_ d4_=some a:=by show k6_=_;rw[k_]
def k3t:kget hV_ ny!=some b:=by show zY!=_;rw[HP c7e,k_]
def k3n:kget hV_ nC_=some c:=by show(if _ then _ else zY!)=_;rw[HP c7f,HP c7b,k_]
def k3p:As hV_ d4_ v=k3 v b c:=by show k6_=_;rw[k_];rfl
end
def nA{g:D->D}:∀{its:c!} {x:D},kget k7! x=if x∈its then some (g x)else none
 |[],x=>by simp[kget]
 |i::its,x=>by
  rw[HV];unfold kget;by_cases e:i=x
  .subst e;simp
  .rw[HP e,nA];simp[HR e]
def a7v{g:D->D}{v:D}:∀{its:c!},its.Nodup->x∈its->As k7! x v=its.map λi=>(i,if i=x then v else g i)
 |[],_,h=>by cases h
 |i::its,nd,h=>by
  rw[IJ]at nd;rw[HV,HV];unfold As;by_cases e:i=x
  .subst e;rw[k_];simp only[JT];congr 1;apply KJ;intro j hj;rw[HP λz:j=i=>nd.1 (z▸hj)]
  .rw[HP e];simp only[e,JK];rw[a7v nd.2 ((HN.mp h).resolve_left (HR e))]
def a1a{g:D->D}{v:D}{its:c!}(h:x∉its):As k7! x v=k7!++[(x,v)]:=iX (by rw[JL];simpa using h)
structure Vn(M:Mh)(w:x7!)(rl:dA!)(W:OW)(wt wn:x7!)(qa:D->Addr):Prop where
 mw:∃e,M w=some (.dct hW! e)
 mt:∃e,M wt=some (.dct (W.its.map λi=>(i,.lst k7_)) e)
 mn:∃e,M wn=some (.dct (W.its.map λi=>(i,.fn fQ!)) e)
 mq:∀i∈W.its,M fQ!=some (.lst jT_)/\rl fQ!=.q i
 rw_:rl w=.w
 rt:rl wt=.wt
 rn:rl wn=.wn
 live:∀b,rl b≠.oth->M b≠none
def Br(M:Mh)(w:x7!)(rl:dA!)(W:OW):Prop:=∃wt wn qa,Vn M w rl W wt wn qa
def Tn(M:Mh)(rl:dA!)(M':Mh)(ac:dA!):Prop:=∀b,M b≠none->rl b=.oth->M' b=M b/\ac b=.oth
def Tn.refl{M:Mh}{rl:dA!}:Tn M rl M rl:=λb _ h=>cb_
def Tn.trans{M M1 M2:Mh}{rl dm uw:dA!}(Y:Tn M rl M1 dm)(L:Tn M1 dm M2 uw):Tn M rl M2 uw:=λb hb hr=>by
 show"!s"
section
variable{M:Mh}{R:D->Mh->Prop}{w:x7!}{rl:Addr->LR}{W:OW}{ρ:Ae}
def gS{ep:Nat}(h:bW!)(hk:cl!):Bt M E! y=kget kvs y:=by simp[Bt,h,hk]
def ixw{ep:Nat}{v:D}(h0:Aa 0 ρ=some E!)(h:bW!)(hv:kget kvs aT_=some v)(K:s_):w2 Bt h_ (wl (fC aT_)) ρ M K=K v M:=by have:Bt M E! aT_=some v:=(gS (k:=some (.inl (.inr s))) h rfl).trans hv;simp only[w2,wl,h0,fC,this]
def vZ{q:D×D}:Ak eC! L_=some q.1:=by simp[Bh,Ak,Dc,Ea]
def a4v{q:D×D}:Ak eC! aN_=some q.2:=by simp[Bh,Ak,Dc,Ea]
def jD{W:OW}(w:Bs W):∀q∈W.rows,Io q.1/\Sd q.2/\Ew W q.2:=λq hq=>⟨w.nm _ ((w.ri q.1).mp (IB hq)),a4z w (w.rp q.1 q.2 hq),w.rp q.1 q.2 hq⟩
def a5v(h:ab_)(wi:Bs W)(J:Sd x)(hl:k8!)(hR:R dl_ M):Jn [co!,x] M R:=by
 show"!z";obtain⟨e,hw⟩:=hA.mw;refine j_;show Az p9! k9! M _;simp only[Az,Bf,Bw,ixw (ρ:=k9!) rfl hw k3r];refine dw!;refine cP (λd=>match d with|.tup [_,p]=>decide (p=x)|_=>false) (λd=>match d with|.tup [i,_]=>i|_=>.non) trivial _ _ bG_ ?_
 .show"!=";show"#7";refine p9_
  .have e1:fT uY! cR!=some z2_:=by
    have:f2 Ba dN! v_ cR!=some (.bl z2_):=by
     show(Ak eC! aN_).bind z3_=_;rw[a4v];exact lF L J
    show"!J"
   simp only[De,e1];exact hK
  .have e1:f2 Ak n! C! cR!=some q.1:=vZ;simp only[wl,e1];exact hK
 .have e2:(((fP!).filter λd=>match d with|.tup [_,p]=>decide (p=x)|_=>false).map λd=>match d with|.tup [i,_]=>i|_=>.non)=chl W.rows x:=by
   unfold chl;rw[MH,JL];rfl
  rw[e2];exact hR
end
def b7k(ha:Sd a)(hb:Sd b)(hc:Sd c)(hd:Sd d):Ba hW_ (.tup [c,d])=some (.bl (decide (a=c/\b=d))):=by
 unfold Ba;have d1:=iZ ha;have d2:=iZ hb;have e:En hW_ (.tup [c,d])=decide (a=c/\b=d):=by
  simp only[En,Jh,nG ha hc,nG hb hd,Bool.and_true];by_cases Y:a=c<;>by_cases L:b=d<;>simp[Y,L]
 rw[e];simp only[Bi,By,eA ha,eA hb,eA hc,eA hd,Il,Dq,Bool.and_true,Bool.true_and];rw[ef!]
def c3a{xs:c!}{k:Nat}(h:k<=m_):Bj T! none k9_=some (.lst (xs.take k)):=by
 have e:HT.sIx xs.length xs.length k9_=k:=by rw[HT.sIx_nat];omega
 simp only[Bj];congr 2;unfold Dk;rw[e,HT.sIx_none];simp
def a9f{xs:c!}{k:Nat}(h:k<=m_):Bj T! k9_ none=some (.lst (xs.drop k)):=by
 simp only[Bj];congr 2;have e:HT.sIx xs.length 0 k9_=k:=by rw[HT.sIx_nat];omega
 have e2:HT.sIx xs.length xs.length none=m_:=rfl;unfold Dk;rw[e,e2,AY_]
section
variable{M:Mh}{R:D->Mh->Prop}{w:x7!}{rl:Addr->LR}{W:OW}{ρ:Ae}
def DO:Ae->Option Bool:=Cz un! uo!
def c6a{rs:i!}{k:Nat}(hk:k<=av_)(hl:av_<5000)(jf:z5!)(hp:Sd p):DO bt!=some z6!:=by
 have el:f1 Bp gt! bt!=some la!:=by
  show z6_;simp[Bp]
 have e5:Aa 5 bt!=some fN_:=rfl;have e2:Aa 2 bt!=some p:=rfl;by_cases c:k<av_
 .have e1:rs[k]?=some rs[k]:=II c;have ea:Dc eC_ bg!=some la_:=by
   show"#&";simp[c]
  have e3:f2 Ak T_ I! bt!=some la_:=ea;have e4:Kd fN_ la!=some z_:=by simp[Kd,Ch];exact c
  have e6:Eg (fQ_).2 p=some z7!:=a3p (jf _ hT_).2 hp;have e7:f2 Eg un_ x! bt!=some z7!:=by
   show((f2 Ak T_ I! bt!).bind λx=>Ak x aN_).bind (λz=>Eg z p)=_;rw[e3];show(Ak la_ aN_).bind _=_;rw[a4v];exact e6
  have e8:f2 Kd I! gN_ bt!=some z_:=by
   show z7_;rw[el];exact e4
  simp only[DO,Cz,fT,e8,e7,MN,JT,e1]
 .have e1:rs[k]?=none:=JW a!;have e4:Kd fN_ la!=some Q!:=by simp[Kd,Ch];omega
  have e8:f2 Kd I! gN_ bt!=some Q!:=by
   show z7_;rw[el];exact e4
  simp only[DO,Cz,fT,e8,MN,e1];rfl
def c3e{rs:i!}{k:Nat}(hk:k<av_)(h:chl qa! p=[])(hp:(fQ_).2≠p):chl (rs.take V!) p=[]:=by rw[OG hk,eI,h];rw[vG hp];rfl
def a8q{rs:i!}(hl:av_<5000)(jf:z5!)(hp:Sd p)(R:j!)(hR:∀k:Nat,k<=av_->chl qa! p=[]->R (.nx bt!) M):
  ∀(m k:Nat),av_ - k=m->k<=av_->chl qa! p=[]->∃n,Dd (De DO) uo_ n bt! M R
 |m,k,hm,hk,hc=>by
  have et:=c6a (x0:=x0) (i:=i) (s:=s) (y:=y) hk hl jf hp;by_cases c:k<av_/\(rs[k]?.map A_)≠some p
  .obtain⟨c1,c2⟩:=c;have e1:rs[k]?=some rs[k]:=II c1;rw[e1]at et c2;have c3:(fQ_).2≠p:=λz=>c2 (by rw[<-z];rfl);rw[show(match(some rs[k]:Option aD_)with|some q=>!decide (q.2=p)|none=>false)=true by simp[c3]]at et;cases m with
   |zero=>omega
   |succ m=>
    obtain⟨n,hn⟩:=a8q hl jf hp R hR m V! a! a! (c3e c1 hc c3);refine⟨n+1,?_⟩;have es:f2 Ao I! w! bt!=some qb!:=by
     show qb_;simp[Ao]
    simp only[Dd,De,et,JT,Am,wl,es];exact hn
  .refine fn!;have ef:z6!=false:=by
    cases e:rs[k]? with
    |none=>rfl
    |some q=>
     have c1:k<av_:=(qc!).1;have:q.2=p:=by
      by_cases z:q.2=p
      .exact z
      .exact absurd ⟨c1,by rw[e];simp[z]⟩ c
     simp[this]
   rw[ef]at et;simp only[Dd,De,et];exact hR k hk hc
def GF:WS:=Av uq_ ur! Bn
def GN(rs:i!)(s p:D)(k0 k at_:Nat):Prop:=(at_=k0/\∀j<k,rs[j]?≠some dk_)\/∃j<k,rs[j]?=some dk_/\at_=j+1
def b1v{rs:i!}{k0:Nat}(hl:av_<5000)(jf:∀q∈rs,Sd q.1/\Sd q.2/\q.1≠.non)(hp:Sd p)(hs:Sd s)(R:j!)(hR:∀(a:Nat) y,GN rs s p k0 rs.length a->R (.nx z8_) M):
  ∀(m k a:Nat) (y:ao!),av_ - k=m->k<=av_->GN rs s p k0 k a->Ig gL_ ae_ GF z9_ z8_ M R
 |0,k,a,y,hm,hk,ha=>⟨trivial,hR a y (by rw[show rs.length=k by omega];exact ha)⟩
 |m+1,k,a,y,hm,hk,ha=>by
  have c1:k<av_:=by omega
  rw[List.range'_succ,HV];refine aJ!;show GF eD! M _;have e1:rs[k]?=some rs[k]:=II c1;obtain⟨q1,q2,q3⟩:=jf rs[k] hT_;have ea:f2 Ak T_ bj! eD!=some la_:=by
   show Dc eC_ bg!=_;show"#&";simp[c1]
  have et:f2 Ba uX! ur_ eD!=some (.bl (decide ((fQ_).1=s/\(fQ_).2=p))):=by
   show(f2 Ak T_ bj! eD!).bind (λz=>Ba z (.tup [s,p]))=_;rw[ea];exact b7k q1 q2 hs hp
  have en:f2 Ar M! cg! eD!=some (.bl (!Cn s)):=rfl;have cond:Cz up! up_ eD!=some (decide (rs[k]=dk_)):=by
   simp only[Cz,fT,en,et,MN];by_cases z:s=.non
   .rw[show Cn s=true from a1g.mpr z];have:¬rs[k]=dk_:=λy=>q3 xa_;simp[this]
   .rw[kA z];simp only[PP,JT];congr 1;rw[decide_eq_decide];exact⟨λy=>Prod.ext y.1 y.2,λy=>by rw[y];exact bi_⟩
  have es:f2 Ao bj! w! eD!=some qb!:=by
   show qb_;simp[Ao]
  by_cases z:rs[k]=dk_
  .refine Aa_;simp only[Am,wl,es];exact b1v hl jf hp hs R hR m V! V! _ a! a! (.inr ⟨k,v!,by rw[e1,z],rfl⟩)
  .refine iY Ab! ?_;refine b1v hl jf hp hs R hR m V! a _ a! a! ?_;obtain⟨Y,L⟩|⟨j,Y,L,h3⟩:=ha
   .refine .inl ⟨Y,ke_⟩;by_cases y:j=k
    .rw[y,e1];exact λx=>z (JJ x)
    .exact L j a!
   .exact Ac!
def Vn.setRows{qa:D->Addr}{rows':i!}{e:Nat}(hA:Ac_):Vn (Bg M w qc_) w rl {W with rows:=rows'} wt wn qa/\Tn M rl (Bg M w qc_) rl:=by
 have aw:∀b,rl b≠.w->Bg M w qc_ b=M b:=λb hb=>mup_ne λz=>hb (by rw[z];exact hA.rw_);refine⟨⟨jV!,?_,?_,fE_,hA.rw_,hA.rt,hA.rn,bz!⟩,Ae_⟩
 .rw[aw wt qd_];exact hA.mt
 .rw[qe!];exact hA.mn
 .show"#6"
 .by_cases z:b=w
  .rw[z,mup_same];simp
  .rw[j4!];show"#%"
def a9s(h:ab_)(jf:∀q∈W.rows,Sd q.1/\Sd q.2/\q.1≠.non)(hi:Sd i)(hp:Sd p)(hs:Sd s)(hl:cc!<4000)
  (hR:∀M' rows',Qe W.rows i p s rows'->Br M' w rl {W with rows:=rows'}->Tn M rl M' rl->R .non M'):Gq [co!,i,p,s] M R:=by
 show"!z";obtain⟨e,hw⟩:=hA.mw;refine j_;show Ah (Am 4 p9!) _ Af_ M _;simp only[Ah,Am,Bf,Bw,ixw (ρ:=Af_) rfl hw k3r];refine dw!;have sub:∀q∈wo W.rows i,q∈W.rows:=λq hq=>(ob_).1;have lw:(kg!).length<=cc!:=NB _ _;refine cP (λd=>match d with|.tup [a,_]=>!decide (a=i)|_=>false) id trivial _ _ bG_ ?_
 .obtain⟨q,hq,rfl⟩:=IH.mp hd;obtain⟨Y,_,_⟩:=jf q hq;refine⟨qf!,rfl,ew_,yY!⟩;have e1:fT um_ qf!=some Ag_:=by
   have:f2 Eg aX! v_ qf!=some (.bl Ag_):=by
    show(Ak eC! L_).bind (λz=>Eg z i)=_;rw[vZ];exact a3p Y hi
   show"!J"
  simp only[De,e1];exact hK
 have e2:((fP!).filter λd=>match d with|.tup [a,_]=>!decide (a=i)|_=>false).map id=(kg!).map Bh:=by
  rw[RU,MH];unfold wo;congr 1;apply KU;intro q _;simp[Bh]
 rw[e2];generalize XY:wo W.rows i=rs at *;have TL:∀q∈rs,Sd q.1/\Sd q.2/\q.1≠.non:=λq hq=>jf q (sub q hq);refine a8q (M:=M) a! (λq hq=>⟨(TL q hq).1,(TL q hq).2.1⟩) hp _ (λk0 hk0 hc0=>?_) rs.length 0 a! a! (by rw[List.take_zero];rfl);have hr:Eu gN_ Ah_=some ((List.range' 0 av_).map λj=>D.int pZ_):=by
  have:f1 Bp gt! Ah_=some la!:=by
   show z6_;simp[Bp]
  unfold Eu;rw[this];show(if -1000<=qg!/\qg!<=100000 then some (Dl (qg!).toNat)else none)=_;rw[ac!];simp[Dl,List.range_eq_range']
 simp only[Df,Ia,hr,Dz];refine b1v (M:=M) a! TL hp hs _ (λa y ha=>?_) rs.length 0 k0 none a! a! Ai!;have vm:a<=av_:=by
  obtain⟨Y,_⟩|⟨j,Y,_,h3⟩:=ha<;>omega
 have ev:f2 Ao us_ uu! fR!=some lc!:=by
  have s1:Dp T_ Aq e9! fR!=some qg_:=c3a lc_;have s2:Dp T_ e9! Aq fR!=some Aj!:=a9f lc_;have s3:Dj us! fR!=some qi!:=rfl;have a1:Ao qg_ qi!=some Aj_:=by
   show hA!;rw[ld!]
  have a2:Ao Aj_ Aj!=some lc!:=by
   show hA!;rw[ld!];simp
  show((Dp T_ Aq e9! _).bind λx=>(Dj _ _).bind λz=>Ao x z).bind (λx=>(Dp T_ e9! Aq _).bind λz=>Ao x z)=_;rw[s1,s3,s2];show(Ao qg_ qi!).bind (λx=>Ao x _)=_;rw[a1];exact a2
 have dt:Lh M bH_ d4_ lc!=some (Bg M w (.dct (k3 lc! fP_ eB_) (Gs hW! d4_ e))):=by
  rw[hJ (k:=Ak_) hw rfl (by show 3<big;decide),k3p]
 have f0:Aa 0 fR!=some bH_:=rfl;obtain⟨g1,g2⟩:=hA.setRows (rows':=rs.take a++bR!::rs.drop a) (e:=Gs hW! d4_ e);have fin:=hR _ Ai_ ⟨rs.take a,rs.drop a,by rw[XY,List.take_append_drop],rfl,?_⟩ Am! g2
 .show Cb h_ gN! (wl _) fR! M _;simp only[Cb,wl,ev,f0,fC,dt,Dz];exact fin
 .rw[XY];obtain⟨Y,L⟩|⟨j,Y,L,h3⟩:=ha
  .refine .inl ⟨cl_,by rw[Y];exact hc0⟩;obtain⟨j,hj⟩:=MY.mp o0!;exact L j (IL.mp hj).1 hj
  .refine .inr ⟨rs.take j,?_⟩;have hj:j<av_:=(IL.mp L).1;rw[h3,OG hj,(IL.mp L).2]
def b1x{rows:i!}(nd:fD!):(rows.filter λq=>decide hY_)=match rows.find? Am_ with|some q=>[q]|none=>[]:=by
 induction rows with
 |nil=>rfl
 |cons a r ih=>
  rw[HV,IJ]at nd;by_cases e:a.1=x
  .rw[JY hi_,List.find?_cons_of_pos hi_];have:r.filter Am_=[]:=by
    rw[QJ];intro q hq;simp only[JA];exact λz=>nd.1 (by rw[e,<-z];exact IB hq)
   rw[this]
  .rw[JQ hi_,List.find?_cons_of_neg hi_,ih nd.2]
def b5i{W:OW}(wi:Bs W)(h:jQ!):ld_=[bb_]:=by
 rw[b1x wi.rnd];cases e:W.rows.find? λq=>decide hY_ with
 |none=>have:=List.find?_eq_none.mp e bb_ h;simp at this
 |some q=>
  have Y:=List.find?_some e;have L:=List.mem_of_find?_eq_some e;simp at Y;have:q.2=p:=kB wi.rnd (by rw[<-Y];exact L) h;obtain⟨a,b⟩:=q;dsimp only at Y this ⊢;rw[Y,this]
def d1k{W:OW}(wi:Bs W)(h:∀p,bb_∉W.rows):ld_=[]:=by rw[QJ];rintro⟨a,b⟩ hq;simp only[JA];exact λz=>h b vW!
def EY:WS:=Ah uv!
 (Ah uw_
 (Am 1 gC_))
def a0z(h:ab_)(wi:Bs W)(hl:k8!)(hi:Io i){rk:D->Nat}(ij:wm_):∀(n:Nat) (x:D) (y:ao!),rk x<n->Ew W x->∀(R':j!),(Wn W.rows i x->∀y',R' (.nx [B_,K!,K!,y']) M)->(¬Wn W.rows i x->R' (.rt Q!) M)->
   ∃m,Dd (De iJ!) EY m fR_ M R'
 |0,x,y,hn,_,_,_,_=>by omega
 |n+1,x,y,hn,J,R',r1,r2=>by
  obtain⟨wt,wn,qa,hA⟩:=id h;obtain⟨e0,hw⟩:=hA.mw;have sx:=a4z wi J;have et:fT sl! fR_=some qj_:=by
   have:f2 Eg v_ x! fR_=some (.bl qj_):=a3p sx hi.sd;show"!J"
  by_cases e:x=i
  .subst e;refine fn!;rw[show(!decide (x=x))=false by simp]at et;simp only[Dd,De,et];exact r1 .here y
  .rw[show qj_=true by simp[e]]at et;have body:∀(K:j!),(wn_->K (.rt Q!) M)->(∀p,bb_∈W.rows->K (.nx [B_,cG!,K!,some qk!]) M)->EY fR_ M K:=λK g1 g2=>by
    show Ah (Am 3 p9!) _ fR_ M _;simp only[Ah,Am,Bf,Bw,ixw (ρ:=fR_) rfl hw k3r];refine dw!;refine cP (λd=>match d with|.tup [a,_]=>decide (a=x)|_=>false) (λd=>match d with|.tup [_,p]=>p|_=>.non) trivial _ _ bG_ ?_
    .show"!=";obtain⟨Y,_,_⟩:=jD wi q hq;refine p9_
     .have e1:fT jg! cR!=some le_:=by
       have:f2 Ba aX! v_ cR!=some (.bl le_):=by
        show Ao!;rw[vZ];exact lF Y.sd sx
       show"!J"
      simp only[De,e1];exact hK
     .have e1:f2 Ak n! w! cR!=some q.2:=a4v;simp only[wl,e1];exact hK
    .have e2:(((fP!).filter λd=>match d with|.tup [a,_]=>decide (a=x)|_=>false).map λd=>match d with|.tup [_,p]=>p|_=>.non)=(ld_).map A_:=by
      rw[MH,JL];rfl
     rw[e2];by_cases c:∃p,bb_∈W.rows
     .obtain⟨p,hp⟩:=c;rw[b5i wi hp];refine iY rfl ?_;have e3:f2 Ak M! C! [B_,aI_,K!,some qk!]=some p:=rfl;simp only[Am,wl,e3];exact g2 p hp
     .have c':∀p,bb_∉W.rows:=λp z=>c ⟨p,z⟩;rw[d1k wi c'];refine ifT rfl ?_;exact g1 c'
   obtain J|J:=J
   .obtain⟨p,hp⟩:=b0p wi J;have q:=a9w wi.rnd hp e;have:=ij _ _ hp;have key:∀y',∃m,Dd (De iJ!) EY m [B_,cG!,K!,y'] M R':=λy'=>a0z h wi hl hi ij n p y' a! (wi.rp _ _ hp) R' wo_ (λz=>r2 λv=>z (q.mp v));obtain⟨m,hm⟩:=key (some qk!);refine⟨m+1,?_⟩;simp only[Dd,De,et,JT];exact body _ (λnt=>absurd hp (nt p)) λp' bx=>by rw[kB wi.rnd bx hp];exact hm
   .have nt:∀p,bb_∉W.rows:=by
     obtain rfl|rfl:=J
     .exact tJ wi (b3i wi)
     .exact tJ wi (c3l wi)
    refine fn!;simp only[Dd,De,et,JT];exact body _ (λ_=>r2 (b7w nt e)) (λp hp=>absurd hp (nt p))
def c3m(h:ab_)(wi:Bs W)(hl:k8!)(J:bS_)(hi:Io i)(hR:∀b:Bool,(b=true↔Wn W.rows i x)->R bK_ M):Ms [co!,x,i] M R:=by obtain⟨rk,ij⟩:=wi.rk;refine j_;exact a0z h wi hl hi ij (rk x+1) x none a! J _ (λz y'=>hR true ga_) (λz=>hR false ga_)
def b4s{neg:Bool}{ep:Nat}(h:bW!)(hk:cl!):Ib neg M y E!=some (.bl (if neg then !(hZ!).isSome else(hZ!).isSome)):=by simp[Ib,h,hk]
def c5x(J:Sd x)(ha:Sd a)(hb:Sd b):Ib false M x hW_=some (.bl (decide (x=a\/x=b))):=by
 have d1:=iZ ha;have d2:=iZ hb;have e:((aq!).any λd=>En d x)=decide (x=a\/x=b):=by
  simp only[MC,List.any_nil,Bool.or_false,nG ha J,nG hb J];by_cases Y:a=x<;>by_cases L:b=x<;>simp[Y,L,HR]<;>first|exact .inl Y.symm|exact .inr L.symm|exact⟨λz=>Y z.symm,λz=>L z.symm⟩|skip
 show Ib.inS false M x hW_=_;unfold Ib.inS;show(if Bi x&&By aq!&&decide (Dq aq!<=40)then some (D.bl (if false=true then _ else[a,b].any λd=>En d x))else none)=_;rw[HY (by simp[eA J,By,eA ha,eA hb,Dq];omega),e];rfl
def d4g{g:bf!}{fx:e!}{fb:WE}(J:fx ρ=some x)(K:s_):w2 g lf! fb ρ M K=fb ρ M λy M2=>match g M2 x y with|some d=>K d M2|none=>False:=by simp only[w2,wl,J]<;>rfl
def b8h{W:OW}:(kget eD_ x).isSome=decide g9_:=by rw[nA];by_cases h:x∈W.its<;>simp[h]
def rE{fx:e!}(h:ab_)(h0:hZ_)(J:fx ρ=some x)(hk:aD!)(K:s_):w2 by_ lf! bl_ ρ M K=K (.bl (decide g9_)) M:=by obtain⟨wt,wn,qa,hA⟩:=h;obtain⟨e0,hw⟩:=hA.mw;obtain⟨e1,ht⟩:=hA.mt;have hi:=ixw (M:=M) (ρ:=ρ) (s:=hO_) h0 hw k3t;have e:=b4s (neg:=false) ht hk;rw[show(if false=true then _ else(kget eD_ x).isSome)=decide g9_ from b8h]at e;rw[d4g J,hi,e]
def a9r(h:ab_)(wi:Bs W)(hl:cc!<4000)(hi:Sd i)(J:Sd x)(hs:Sd s)(cu:fo_)(gj:op_)
  (hR:∀M' W',(eh_->∃rows',Qe W.rows i x s rows'/\W'={W with rows:=rows'})->(¬eh_->W'=W)->Br M' w rl W'->Tn M rl M' rl->R .non M'):Jm [co!,i,x,s] M R:=by
 refine j_;show Av (Gu (wT _) (Uw (wT _) (wT _))) _ Bn dA_ M _;have g1:=rE (ρ:=dA_) (fx:=Aa 1) h rfl rfl cu;have g2:=rE (ρ:=dA_) (fx:=Aa 2) h rfl rfl gj;have g3:∀K:D->Mh->Prop,w2 by_ C_ uy_ dA_ M K=K (.bl (decide (x=root\/x=binn))) M:=λK=>by
  have vk:Aa 2 dA_=some x:=rfl;have:=c5x (M:=M) J (iP "root") (iP "bin");simp only[w2,wl,vk,fC,this]
 have no:(¬eh_)->R .non M:=λc=>hR M W (λz=>absurd z c) (λ_=>rfl) h .refl;have XZ:i∈W.its->Ew W x->Av uz_ uA_ Bn dA_ M hb_:=λc1 c2=>by
  have hc:∀(K:s_),Ms [co!,x,i] M K->Ai 3 Ms uz! dA_ M K:=λK h=>cb_;unfold Av Ip wT;refine hc _ (c3m h wi a! c2 (wi.nm i c1) λb hb=>?_);cases b with
  |true=>exact no λz=>z.2.2 (hb.mp rfl)
  |false=>
   have nw:¬Wn W.rows i x:=λz=>by have:=hb.mpr z;cases this
   have ir:∀(K:s_),Gq [co!,i,x,s] M K->Ai 4 Gq uA! dA_ M K:=λK h=>cb_;simp only[PP,JT];refine hW (ir _ (a9s h ej_ hi J hs hl λM' rows' hg hL hF=>?_))
   .show"#7";exact⟨Y.sd,L,Y.nn.1⟩
   .exact hR M' _ (λ_=>⟨rows',hg,rfl⟩) (λz=>absurd ⟨c1,c2,nw⟩ z) hL hF
 simp only[Av,Gu,Uw,wT,g1];by_cases c1:i∈W.its
 .rw[IV c1];simp only[JT,g2];by_cases c2:x∈W.its
  .rw[IV c2];exact XZ c1 (.inl c2)
  .rw[IF c2];simp only[IW,JK,g3];by_cases c3:x=root\/x=binn
   .rw[IV c3];exact XZ c1 (.inr c3)
   .rw[IF c3];exact no λz=>z.2.1.elim c2 c3
 .rw[IF c1];exact no λz=>c1 z.1
end
def Xv:WS:=(Ah uC_
 (Ah nB!
 (Ah nD!
 nE!)))
def Xu:WS:=uF_
def DD:WS:=uH_
def Th:WS:=(Ah jl_
 (Ah (Am 6 a5_)
 (Ah (Df nG_ (Cg 7) DD)
 (Ah uJ_
 uL_))))
def Xw:WS:=(Ah uN_
 (Ah jl_
 uR!))
abbrev knd(k:Str):Ae->Option Bool:=fT (f2 Ba bA_ (fC U!))
abbrev Uk:WT:=wT gO!
def c4l:Xq=Ah nA! (Ah nA_
 (Av Ap_ Xv (Av Aq! nF! (Av Aq_ nF_
  (Av Ar! Xu Ar_))))):=rfl
section
variable{M:Mh}{R:D->Mh->Prop}{w:x7!}{rl:Addr->LR}{W:OW}{ρ:Ae}{pre:List D}
def c1l(h:ql_):knd k' ρ=some kG!:=by
 have e:Ak eu_ L_=some U!:=by
  show px!;show"!d"
 have:f2 Ba bA_ (fC pw_) ρ=some (.bl kG!):=by
  show((lf_).bind λx=>Ak x L_).bind (λx=>Ba x pw_)=_;rw[h];show(Ak eu_ L_).bind _=_;rw[e];exact gU k k'
 unfold knd fT;rw[this];rfl
def p1(h:As!):f2 Ak x! w! ρ=some a:=by show(lf_).bind (λx=>Ak x aN_)=_;rw[h];exact ix1
def p2(h:Aa 2 ρ=some py!):f2 Ak x! S_ ρ=some b:=by show(lf_).bind (λx=>Ak x bx_)=_;rw[h];exact ix2
def p3(h:Aa 2 ρ=some py_):f2 Ak x! al_ ρ=some c:=by show(lf_).bind (λx=>Ak x bi!)=_;rw[h];exact ix3
def anF{ft:ah_}{fu:WT}{q1 q2:WS}{R:j!}(h:yK!)(k:du!):Av As_ q1 q2 ρ M R:=by simp only[Av,Gu,De,h];exact k
def anT{ft:ah_}{fu:WT}{q1 q2:WS}{R:j!}{b:Bool}(h:yJ_)(hu:∀K:Bool->Mh->Prop,K b M->fu ρ M K)(k1:At!)(k2:At_):Av As_ q1 q2 ρ M R:=by
 simp only[Av,Gu,De,h,JT];refine hu _ ?_;cases b with
 |true=>rw[k_];exact k1 rfl
 |false=>rw[W_];exact k2 rfl
def a5b(h:ab_)(h0:hZ_)(L:As!)(hk:dr!)(K:fK_)(hK:K (decide (a∈W.its)) M):Uk ρ M K:=by unfold Uk wT;rw[rE h h0 (p1 L) hk];exact hK
def Cy.sd(h:Cy x):Sd x:=by
 obtain rfl|rfl|⟨a,b,rfl,_⟩:=h
 .exact iP _
 .exact iP _
 .exact .inr ol!
def Mz.sd(h:Mz x):Sd x:=by
 obtain rfl|⟨a,b,rfl,_⟩:=h
 .exact c0!
 .exact .inr ol!
def Lc.sd(h:Lc x):Sd x:=by
 obtain rfl|⟨a,b,c,rfl,_⟩:=h
 .exact c0!
 .exact .inr wj_
def Vn.setTx{qa:D->Addr}{l:ah!}{e:Nat}(hA:Ac_)(nd:oa_)(ha:ec_):Vn (Bg M wt qm!) w rl oh_ wt wn qa/\Tn M rl (Bg M wt qm!) rl:=by
 have aw:∀b,rl b≠.wt->Bg M wt qm! b=M b:=λb hb=>mup_ne λz=>hb (by rw[z];exact hA.rt);refine⟨⟨?_,gU!,?_,fE_,hA.rw_,hA.rt,hA.rn,bz!⟩,Ae_⟩
 .rw[aw w qm_];exact hA.mw
 .rw[mup_same,a7v nd ha];congr 2;apply KJ;intro i _;show(i,if i=a then D.lst lg! else D.lst k7_)=(i,D.lst ((if i=a then l else W.txt i).map Be));split<;>rfl
 .rw[qe!];exact hA.mn
 .show"#6"
 .by_cases z:b=wt
  .rw[z,mup_same];simp
  .rw[j4!];show"#%"
def c2q{p v:Int}{R:j!}(h:ab_)(wi:Bs W)(ha:ec_)(hk:dr!)(h0:hZ_)(L:Aa 2 ρ=some kD_)(p0:0<=p)(p3':p<=3)
  (hR:∀M',Br M' w rl (Ss W a kE_)->Tn M rl M' rl->R aK_ M'):Xu ρ M R:=by
 obtain⟨wt,wn,qa,hA⟩:=h;obtain⟨e0,hw⟩:=hA.mw;obtain⟨e2,hn⟩:=hA.mn;obtain⟨hq,j0⟩:=hA.mq a ha;have hi:=ixw (M:=M) (ρ:=ρ) (s:=pQ_) h0 hw k3n;have hg:Bt M eB_ a=some qn!:=by rw[gS hn hk,nA,HY ha]
 have J:Ea (pq_).length p=some p.toNat:=by
  rw[wi.nl a ha];unfold Ea;rw[HY p0,ac!]
 have dt:Lh M qn! (.int p) kE!=some (Bg M (qa a) (.lst kE_)):=by simp[Lh,hq,J]
 have aw:∀b,rl b≠.q a->Bg M (qa a) (.lst kE_) b=M b:=λb hb=>mup_ne λz=>hb wq!;have fin:=hR _ ⟨wt,wn,qa,⟨by rw[aw w qm_];exact hA.mw,by rw[aw wt qd_];exact hA.mt,by rw[qe!];exact hA.mn,λi hi=>by
   by_cases c:i=a
   .subst c;refine⟨?_,j0⟩;rw[mup_same];simp[Ss]
   .obtain⟨g1,g2⟩:=hA.mq i hi;refine⟨?_,g2⟩;rw[aw _ (by rw[g2];simpa using c),g1];simp[Ss,c],hA.rw_,hA.rt,hA.rn,λb hb=>by
   by_cases z:b=qa a
   .rw[z,mup_same];simp
   .rw[j4!];exact hA.live b hb⟩⟩ (λb _ hr=>Ae!)
 show Cb uF! gw_ (wl a6!) ρ M R;have e3:=p3 L;have e2':=p2 L;have e1:=p1 L;have vj:∀K:D->Mh->Prop,w2 Bt nD_ b4_ ρ M K=K qn! M:=λK=>by
  have st:∀{fo:WE} {fb:e!} {x y:D} (_:Ax!) (_:fb ρ=some y) (K:s_),w2 Bt fo hL! ρ M K=(match Bt M x y with|some d=>K d M|none=>False):=λY L K=>by
   unfold w2;rw[Y];simp only[wl,L]<;>rfl
  rw[st hi e1,hg]
 unfold Cb;simp only[wl,e3];rw[vj];simp only[wl,e2',dt,Dz];exact fin
def d4h{g:bf!}{fo:WE}{fb:e!}(Y:Ax!)(L:fb ρ=some y)(K:s_):w2 g fo hL! ρ M K=(match g M x y with|some d=>K d M|none=>False):=by unfold w2;rw[Y];simp only[wl,L]<;>rfl
def b8e{fx:e!}(h:ab_)(h0:hZ_)(J:fx ρ=some a)(hk:dr!)(ha:ec_)(K:s_):w2 Bt bl_ lf! ρ M K=K (.lst eE!) M:=by obtain⟨wt,wn,qa,hA⟩:=h;obtain⟨e0,hw⟩:=hA.mw;obtain⟨e1,ht⟩:=hA.mt;rw[d4h (ixw (M:=M) (ρ:=ρ) (s:=hO_) h0 hw k3t) J,gS ht hk,nA,HY ha]
def d2b{q:fk!}:Ak (Be q) L_=some q.1:=by simp[Be,Ak,Dc,Ea]
def d2a{q:fk!}:Ak (Be q) aN_=some q.2.1:=by simp[Be,Ak,Dc,Ea]
def d1z{q:fk!}:Ak (Be q) bx_=some qo!:=by simp[Be,Ak,Dc,Ea]
def c5y{neg:Bool}(J:Sd x)(hl:∀d∈l,Sd d):Ib neg M x (.lst l)=some (.bl (if neg then !decide (x∈l)else decide (x∈l))):=by
 have e:Ay!=decide (x∈l):=by
  rw[LS,List.any_eq_true,JA];show"!L"
  .rintro⟨d,hd,he⟩;rw[nG (hl d hd) J,JA]at he;rw[<-he];exact hd
  .intro h;exact⟨x,h,by rw[nG J J];simp⟩
 have n:∀l:List D,(∀d∈l,Sd d)->By l=true/\Dq l<=5:=λl=>by
  induction l with
  |nil=>intro _;simp[By,Dq]
  |cons a r ih=>
   intro h;obtain⟨i1,i2⟩:=ih λd hd=>h d (HL _ hd)
   have Y:=eA (h a HQ);have L:=iZ (h a HQ);refine⟨by simp[By,Y,i1],by simp[Dq];omega⟩
 obtain⟨n1,n2⟩:=n l hl;show Ib.inS neg M x (.lst l)=_;unfold Ib.inS;show(if Bi x&&By l&&decide (Dq l<=40)then some (D.bl (if neg=true then ! Ay! else l.any λd=>En d x))else none)=_;rw[HY (by rw[eA J,n1];simp;omega),e]
def b9a{fx:e!}{fv:WE}{l:ah!}{R:j!}(h:ab_)(nd:oa_)(hB:h0_<5000)(h0:hZ_)(J:fx ρ=some a)(hk:dr!)(ha:ec_)(hv:∀K:D->Mh->Prop,K lg_ M->fv ρ M K)
  (hR:∀M',Br M' w rl oh_->Tn M rl M' rl->R aK_ M'):Cb bl_ lf! fv ρ M R:=by
 show"!z";obtain⟨e0,hw⟩:=hA.mw;obtain⟨e1,ht⟩:=hA.mt;unfold Cb;refine hv _ ?_;rw[ixw (M:=M) (ρ:=ρ) (s:=hO_) h0 hw k3t];have dt:=hJ (y:=a) (v:=.lst lg!) ht hk fS!;simp only[wl,J,dt,Dz];obtain⟨g1,g2⟩:=hA.setTx (a:=a) (l:=l) (e:=Gs eD_ a e1) nd ha;exact hR _ Am! g2
def vU{f:e!}{n:Nat}(h:f ρ=some (.int (n:Nat)))(hn:n<=100000):Eu f ρ=some ((oT_).map λi=>D.int cS_):=by unfold Eu;rw[h];show(if -1000<=qo_/\qo_<=100000 then some (Dl (qo_).toNat)else none)=_;rw[ac!];simp[Dl]
def c2s{g4 r5 r6 r7 r8:D}{x y z m:Int}{R:j!}(h:ab_)(wi:Bs W)(hB:h0_<5000)(ht:Az!)(ha:ec_)(hk:dr!)(m1:1<=m)(m16:m<=16)
  (hR:∀M' ρ',Br M' w rl (setT W a (cutT wD! au_))->Tn M rl M' rl->R cS! M'):
  Xw qp! M R:=by
 have L:∀o4 o5 o6 o7 o8 o9,Aa 2 qp!=some es_:=λ_ _ _ _ _ _=>rfl;have hm:((m.toNat:Nat):Int)=m:=by omega
 have er:Eu a6! qp!=some ((el!).map λi=>D.int cS_):=vU (by rw[p3 Az_,hm]) a!;show Ah (Am 9 (Bf 1 [2] (Ia _) _ _ _)) _ _ M R;simp only[Ah,Am,Bf,Ia,er,Dz];refine dw!;refine cP cN! (λd=>match d with|.int k=>.tup AA_|_=>.non) trivial _ _ bG_ ?_
 .obtain⟨k,cx,rfl⟩:=IH.mp hd;refine⟨cT!,rfl,fF_,dw_⟩;have e1:f2 Ak v_ S_ cT!=some ek_:=by
   show Ak es_ bx_=_;exact ix2
  have uy:Bj ek_ none (some 2)=some jZ!:=by simp[Bj,Dk,HT.sIx]
  have e2:Dp gP! Aq by! cT!=some jZ!:=by
   unfold Dp;rw[e1];exact uy
  have e3:f2 Ak gP! S_ cT!=some (.int z):=by
   show(f2 Ak v_ S_ cT!).bind (λv=>Ak v bx_)=_;rw[e1];rfl
  have e4:f2 Ao uO! (Aw nI!) cT!=some (.tup [fq!,fq_,.int (z+bg!)]):=by
   have e5:Aw nI! cT!=some (.tup [.int (z+bg!)]):=by
    have:f2 Ao uO_ n! cT!=some (.int (z+bg!)):=by
     show(f2 Ak gP! S_ cT!).bind (λv=>Ao v h1!)=_;rw[e3];rfl
    unfold Aw Ac;rw[this];rfl
   show(Dp _ _ _ _).bind (λu=>(Aw _ _).bind λv=>Ao u v)=_;rw[e2,e5];rfl
  simp only[wl,e4];exact hK
 rw[fG!,JL];show w2 Bt bl_ b4_ [some bH_,some x0,some es_,some nm,o4,o5,o6,o7,o8,some (.lst ((el!).map AB!))] M _;have eg:(el!).map AB!=(el!).map λk=>D.tup hh_:=rfl;rw[eg];generalize hg:(el!).map (λk=>D.tup hh_)=cy at hR;have zw:∀d∈cy,Sd d:=λd hd=>by
  rw[<-hg]at hd;obtain⟨k,_,rfl⟩:=IH.mp hd;exact .inr (.inr (.inr ⟨[x,y,z+(k:Nat)],rfl⟩))
 rw[b8e (ρ:=[B_,O_,li!,fS_,o4,o5,o6,o7,o8,some h1_]) h rfl (p1 Az_) hk ha];refine b9a (l:=cutT cy au_) h wi.nd hB rfl lj! hk ha AC! λM' g1 g2=>hR M' _ g1 g2;have ei:Ep I! [B_,O_,li!,fS_,o4,h2!,o6,o7,o8,some h1_]=some eE!:=rfl;simp only[Bf,Ia,ei,Dz];refine dw!;refine cP cN! (λd=>match d with|.tup [s,c,.bl b]=>Be AC_|_=>.non) trivial _ _ bG_ ?_
 .obtain⟨q,hq,rfl⟩:=IH.mp hd;have sq:Sd q.1:=(AD!).sd;refine⟨h3!,rfl,fF_,dw_⟩;have e0:f2 Ak n! C! h3!=some q.1:=d2b;have e1:f2 Ak n! w! h3!=some q.2.1:=d2a;have e2:f2 Ak n! S_ h3!=some qo!:=d1z;have e3:Aa 1 h3!=some h1_:=rfl;have e4:Ib true M q.1 h1_=some (.bl (!decide (q.1∈cy))):=c5y sq zw;simp only[Qi,Ab,Af,wl,e0,e1,Jw,wT,e2];cases hb:q.2.2 with
  |true=>
   rw[k_];simp only[w2,wl,e0,e3,e4];refine⟨H!,?_⟩;have:K (Be ot_) M:=by
    have:=hK;rw[AD_]at this;exact this
   rw[hb]at this;simpa[Be]using this
  |false=>
   rw[W_];refine⟨H!,?_⟩;have:K (Be ot_) M:=by
    have:=hK;rw[AD_]at this;exact this
   rw[hb]at this;simpa[Be]using this
 .rw[fG!,JL];have:(au_).map ((λd=>match d with|.tup [s,c,.bl b]=>Be AC_|_=>D.non)∘Be)=(cutT cy au_).map Be:=by
   unfold cutT;rw[JL];rfl
  rw[this];exact hK
def EB(l:ah!)(b:D)(k a:Nat):Prop:=(a=0/\∀j<k,AE_≠some b)\/∃j<k,AE_=some b/\a=j+1
def a9v{o4:D}{l:ah!}(hl:av!<5000)(hs:∀q∈l,Sd q.1)(hb:Sd b)(R:j!)(hR:∀(a:Nat) y,EB l b l.length a->R (.nx AG!) M):
  ∀(m k a:Nat) (y:ao!),av! - k=m->k<=av!->EB l b k a->Ig (Cg 7) ae_ DD z9_ AG! M R
 |0,k,a,y,hm,hk,ha=>⟨trivial,hR a y (by rw[show l.length=k by omega];exact ha)⟩
 |m+1,k,a,y,hm,hk,ha=>by
  have c1:k<av!:=by omega
  rw[List.range'_succ,HV];refine aJ!;show DD dB! M _;have e1:l[k]?=some l[k]:=II c1;have ea:f2 Ak I! bL_ dB!=some (Be l[k]):=by
   show Dc lg! bg!=_;show"#&";simp[c1]
  have eb:f2 Ak x! S_ dB!=some b:=p2 rfl;have et:f2 Ba uG_ dT_ dB!=some (.bl AI_):=by
   show((f2 Ak I! bL_ dB!).bind λv=>Ak v L_).bind (λu=>(f2 Ak x! S_ dB!).bind λv=>Ba u v)=_;rw[ea,eb];show(Ak (Be l[k]) L_).bind (λu=>Ba u b)=_;rw[d2b];exact lF (hs _ hT_) hb
  have cond:fT uH! dB!=some AI_:=by
   unfold fT;rw[et];rfl
  have es:f2 Ao bL_ w! dB!=some qb!:=by
   show qb_;simp[Ao]
  by_cases z:(l[k]).1=b
  .refine Aa_;simp only[Am,wl,es];exact a9v (o4:=o4) hl hs hb R hR m V! V! _ a! a! (.inr ⟨k,v!,by rw[e1];exact congrArg some z,rfl⟩)
  .refine iY Ab! ?_;refine a9v (o4:=o4) hl hs hb R hR m V! a _ a! a! ?_;obtain⟨Y,L⟩|⟨j,Y,L,h3⟩:=ha
   .refine .inl ⟨Y,ke_⟩;by_cases y:j=k
    .rw[y,e1];exact λx=>z (JJ x)
    .exact L j a!
   .exact Ac!
def EB.wr{l:ah!}{a:Nat}(h:EB l b l.length a)(nd:(ez_).Nodup):wrT b nw l=l.take a++nw++l.drop a/\a<=av!:=by
 obtain⟨rfl,L⟩|⟨j,Y,L,rfl⟩:=h
 .have nb:b∉l.map c_:=λz=>by
   obtain⟨j,hj⟩:=MY.mp z;rw[JC]at hj;have:j<av!:=by
    cases e:l[j]? with
    |none=>rw[e]at hj;cases hj
    |some q=>exact(qc!).1
   exact L j this hj
  unfold wrT;rw[HP nb];simp
 .have hj:l[j]?=some l[j]:=II Y;rw[hj]at L;have hb:(cn_).1=b:=JJ L;have e:l=l.take j++l[j]::l.drop (j+1):=by rw[<-MD Y,List.take_append_drop]
  have nb:b∉(l.take j).map c_:=λz=>by
   rw[e]at nd;simp only[IU,HV]at nd;rw[IY]at nd;exact nd.2.2 _ z _ d! hb.symm
  have vj:b∈l.map c_:=by rw[<-hb];exact IB (KS Y)
  refine⟨?_,v!⟩;unfold wrT;rw[HY vj]
  conv=>lhs;rw[e]
  rw[yN hb nb,OG Y];simp only[KB,LY,KP]
def b5v(h n:Int)(s:Str):s.cps.toList.zipIdx.map em!=(qq!).map λk=>(D.tup pr!,D.str lk!,true):=by
 apply RG;intro i;rw[JC,JC,List.getElem?_zipIdx];by_cases c:i<hl!
 .have c':i<aC!:=by simpa[Str.length]using c
  rw[II c,List.getElem?_range c'];simp[sgn,List.getD,II c];simp at c;simp[c]
 .have c':¬i<aC!:=by simpa[Str.length]using c
  rw[JW a!,JW am!];rfl
def d3q{f g k:e!}(Y:f ρ=some a)(L:g ρ=some b)(h3:k ρ=some c):Aw (Ac f (Ac g (Ac k Ag))) ρ=some (.tup f7_):=by simp[Aw,Ac,Ag,Y,L,h3]
def b2b{h n:Int}{s:Str}{R:j!}(hL:ab_)(wi:Bs W)(hB:h0_<5000)(ht:Az!)(ha:ec_)(hk:dr!)(hb:Sd b)(s16:j7!)
  (hR:∀M' ρ',Br M' w rl (setT W a (wrT b en_ au_))->Tn M rl M' rl->R cS! M'):
  Th qq_ M R:=by
 show Ah (Am 5 (w2 Bt _ _)) _ qq_ M R;unfold Ah Am;rw[b8e (ρ:=qq_) hL rfl lj! hk ha];show Df nG_ (Cg 7) DD AL_ M _;have er:Eu uG! AL_=some ((List.range (au_).length).map λi=>D.int cS_):=vU (by
  show Bp [.lst eE!]=_;simp[Bp]) a!
 simp only[Df,Ia,er,Dz,List.range_eq_range'];refine a9v (M:=M) (o4:=.non) ht (λq hq=>(AD!).sd) hb _ (λat_ y TM=>?_) (au_).length 0 0 none a! a! Ai!;obtain⟨ew,vm⟩:=TM.wr (nw:=s.cps.toList.zipIdx.map em!) (wi.snd a ha);have cj:Eu uI! [B_,O_,fT!,bq_,y4,h2!,qr_,y,none,none]=some ((qq!).map λi=>D.int cS_):=vU (by
  unfold f1 Ac;rw[p3 (k:="write") (a:=a) (b:=b) (c:=dp_) (r:=[]) rfl];show Bp [dp_]=_;simp[Bp,big];omega) a!
 simp only[Bf,Ia,cj,Dz];refine dw!;refine cP cN! (λd=>match d with|.int k=>Be AM!|_=>.non) trivial _ _ bG_ ?_
 .obtain⟨k,cx,rfl⟩:=IH.mp hd;have hk2:=NT.mp cx;refine⟨fT_,rfl,fF_,dw_⟩;have e1:f2 Ao x! (Aw aN!) fT_=some (.tup AM_):=rfl;have e2:f2 Ak v_ al_ fT_=some aT_:=by
   show Ak fw_ bi!=_;exact ix3
  have hc:k<hl!:=by simpa[Str.length]using hk2
  have e3:Ak aT_ h1!=some (.str lk!):=by
   show(if aC!<=big then(Dc s.cps.toList bg!).map _ else none)=_;rw[dt!];have:Dc s.cps.toList bg!=some (s.cps.toList.getD k 0):=by
    unfold Dc Ea;rw[ac!,ac!];simp only[MN,NJ];rw[II hc,List.getD_eq_getElem?_getD,II hc];rfl
   rw[this];rfl
  have e4:f2 Ak nz! n! fT_=some (.str lk!):=by
   show(f2 Ak v_ al_ fT_).bind (λv=>Ak v h1!)=_;rw[e2];exact e3
  have e5:Aw uJ! fT_=some (Be (.tup AM_,.str lk!,true)):=by
   exact d3q e1 e4 rfl
  simp only[wl,e5];exact hK
 rw[fG!,JL];have en:(qq!).map ((λd=>match d with|.int k=>Be AM!|_=>D.non)∘λi=>D.int cS_)=(en_).map Be:=by
  rw[b5v,JL];apply KJ;intro k _;simp
 rw[en];show Cb bl_ _ _ [B_,O_,fT!,bq_,y4,h2!,qr_,y,some (.lst ((en_).map Be)),none] M _;have hnl:(en_).length=aC!:=by simp[Str.length]
 refine b9a (l:=wrT b en_ au_) hL wi.nd hB rfl lj! hk ha AC! λM' g1 g2=>hR M' _ g1 g2;generalize hnw:s.cps.toList.zipIdx.map em!=nw at *;have s1:Dp I! Aq fa! qs!=some qs_:=c3a lc_;have s2:Dp I! fa! Aq qs!=some AN!:=a9f lc_;have b1:Ao qs_ lk_=some AN_:=by
  show hA!;rw[ld!]
 have b2:Ao AN_ AN!=some AO_:=by
  show hA!;rw[ld!,ew];simp
 have ev:f2 Ao uK! uL! qs!=some AO_:=by
  show((Dp I! Aq fa! _).bind λu=>Ao u lk_).bind (λu=>(Dp I! fa! Aq _).bind λv=>Ao u v)=_;rw[s1,s2];show(Ao qs_ lk_).bind (λu=>Ao u _)=_;rw[b1];exact b2
 simp only[wl,ev];exact hK
def dI{f:e!}(h:cf_)(K:s_):wl f ρ M K=K d M:=by simp only[wl,h]
def c2r{h n:Int}{R:j!}(hL:ab_)(wi:Bs W)(hB:h0_<4000)(hl:cc!<3900)(hn:AP!)(ha:Sd a)(hk:dr!)(hb:Sd b)
  (hR:∀M' ρ' ac rows',Qe W.rows ad_ cI_ b rows'->Br M' w ac (Fo W ad_ rows')->Tn M rl M' ac->R cS! M'):
  Xv h4! M R:=by
 obtain⟨wt,wn,qa,hA⟩:=id hL;obtain⟨e0,hw⟩:=hA.mw;obtain⟨e1,ht⟩:=hA.mt;obtain⟨e2,xz⟩:=hA.mn;have a8:∀{c d:x7!},rl c≠rl d->c≠d:=λh z=>h hm!;have X2:w≠wt:=a8 (by rw[hA.rw_,hA.rt];simp);have wwn:w≠wn:=a8 (by rw[hA.rw_,hA.rn];simp);have tn:wt≠wn:=a8 (by rw[hA.rt,hA.rn];simp);show Ah (Am 4 (Wi (w2 by_ _ _) _)) _ h4! M R;unfold Ah Am Wi wT;rw[rE (ρ:=h4!) hL rfl lj! hk];have er:f2 Ba e1! eT! h4!=some (.bl AQ!):=by
  show(f2 Ak x! w! h4!).bind (λu=>Ba u gk!)=_;rw[AR!];exact lF ha (iP _)
 have key:∀g:Bool,(g=true↔(a∈W.its\/a=root))->
   Ah nB! (Ah nD! nE!)
    (b0!) M R:=by
  intro g hg;have gc:Db ad_=some (some (.inr [.inl h,.inl n])):=rfl;unfold Ah Cb;have f3:∀g',Aa 3 [B_,O_,some es!,bq_,some (.bl g'),none,none,none,none,none]=some ad_:=λ_=>rfl;have fl:Dj Ag b0!=some cQ_:=rfl;rw[dI fl];rw[ixw (M:=M) (ρ:=b0!) (s:=hO_) rfl hw k3t];have dt:=hJ (y:=hk_) (v:=ll!) ht gc fS!;simp only[wl,f3,dt,Dz];rw[a1a hn];generalize hM1:Bg M wt AS!=M1;have X3:M1 w=some (.dct hW! e0):=by rw[<-hM1,mup_ne X2];exact hw
  have X4:M1 wn=some (.dct h4_ e2):=by rw[<-hM1,mup_ne (HR tn)];exact xz
  have TN:M1 wt=some AS!:=by rw[<-hM1];exact mup_same
  have m1:∀c,c≠wt->M1 c=M c:=λc hc=>by rw[<-hM1];exact mup_ne hc
  refine⟨R!,kQ_⟩;have qw:w≠q:=aV (by rw[X3];simp) hq;have qt:wt≠q:=aV (by rw[TN];simp) hq;have qn:wn≠q:=aV (by rw[X4];simp) hq;have m2w:Bg M1 q eo! w=some (.dct hW! e0):=(mup_ne qw).trans X3;have m2n:Bg M1 q eo! wn=some (.dct h4_ e2):=(mup_ne qn).trans X4;show w2 Bt h_ jk! b0! (Bg M1 q eo!) _;rw[ixw (M:=Bg M1 q eo!) (ρ:=b0!) (s:=pQ_) rfl m2w k3n];have hpm2:=hJ (y:=hk_) (v:=.fn q) m2n gc fS!;simp only[wl,f3,hpm2,Dz];rw[a1a hn];generalize ya:Bg (Bg M1 q eo!) wn AT!=M3;have Mq:∀c,M c≠none->c≠q:=λc hc=>by
   by_cases z:c=wt
   .rw[z];exact qt
   .exact aV (N:=M1) (by rw[m1 c z];exact hc) hq
  have m3:∀c,c≠wt->c≠q->c≠wn->M3 c=M c:=λc Y L h3=>by rw[<-ya,on!,cF!,m1 c Y]
  have X5:M3 wt=M1 wt:=by rw[<-ya,mup_ne tn,mup_ne qt]
  have X6:M3 wn=some AT!:=by rw[<-ya];exact mup_same
  have X7:M3 q=some eo!:=by rw[<-ya,mup_ne (HR qn),mup_same]
  have m3w:M3 w=M w:=m3 w X2 qw wwn
  let kg:D->Addr:=λi=>if i=.tup X! then q else qa i
  let ac:Addr->LR:=λc=>if c=q then .q ad_ else rl c
  have ar:∀c,M c≠none->ac c=rl c:=λc hc=>HP (Mq c hc);have lw:M w≠none:=by rw[hw];simp
  have lt:M wt≠none:=by rw[ht];simp
  have ln:M wn≠none:=by rw[xz];simp
  have TQ:Br M3 w ac (Fo W ad_ W.rows):=by
   refine⟨wt,wn,kg,⟨⟨e0,by rw[m3w];exact hw⟩,⟨Gs eD_ ad_ e1,?_⟩,⟨Gs h4_ ad_ e2,?_⟩,fE_,(ar w lw).trans hA.rw_,(ar wt lt).trans hA.rt,(ar wn ln).trans hA.rn,kC!⟩⟩
   .rw[X5,TN];congr 2;show _=(AU!).map _;rw[IU];congr 1
    .apply KJ;intro i hi;show(i,D.lst k7_)=(i,D.lst ((if i=.tup X! then[]else W.txt i).map Be));rw[AU_]
    .show[(D.tup X!,D.lst [])]=[(D.tup X!,D.lst ((if D.tup X!=.tup X! then[]else W.txt ad_).map Be))];rw[k_];rfl
   .rw[X6];congr 2;show _=(AU!).map _;rw[IU];congr 1
    .apply KJ;intro i hi;show(i,D.fn fQ!)=(i,D.fn (if i=.tup X! then q else qa i));rw[AU_]
    .show[(D.tup X!,D.fn q)]=[(D.tup X!,D.fn (if D.tup X!=.tup X! then q else qa ad_))];rw[k_]
   .have df:i∈W.its++[D.tup X!]:=hi;obtain z|z:=HX.mp df
    .obtain⟨g1,g2⟩:=hA.mq i z;have ni:i≠.tup X!:=λy=>hn (y▸z);have eq:kg i=qa i:=HP ni;have lq:M fQ!≠none:=by rw[g1];simp
     rw[eq];refine⟨?_,(ar _ lq).trans g2⟩;rw[m3 _ (a8 (by rw[g2,hA.rt];simp)) (Mq _ lq) (a8 (by rw[g2,hA.rn];simp)),g1];show some (Pj.lst jT_)=some (Pj.lst (if i=.tup X! then _ else W.num i));rw[HP ni]
    .rw[HZ]at z;subst z;have eq:kg ad_=q:=HY rfl;rw[eq];refine⟨?_,k_⟩;rw[X7];show _=some (Pj.lst (if D.tup X!=.tup X! then[.int 0,.int 0,.int 0,.int 0]else _));rw[k_]
   .by_cases z:c=q
    .rw[z,X7];simp
    .have bv:rl c≠.oth:=by rw[<-(HP z:ac c=rl c)];exact hc
     have lc:=hA.live c bv;by_cases z1:c=wt
     .rw[z1,X5,TN];simp
     .by_cases z2:c=wn
      .rw[z2,X6];simp
      .rw[m3 c z1 z z2];exact lc
  have F1:Tn M rl M3 ac:=λc hc hr=>⟨m3 c (a8 (by rw[hr,hA.rt];simp)) (Mq c hc) (a8 (by rw[hr,hA.rn];simp)),(ar c hc).trans hr⟩;have ep:Lb (fT T_) e1! iz_ b0!=some cI_:=by
   have e4:fT T_ b0!=some g:=rfl;unfold Lb;rw[e4];show(if g=true then f2 Ak x! w! b0! else some binn)=_;rw[AR!];by_cases c:a∈W.its\/a=root
   .rw[HY (hg.mpr c),HY (c.elim .inl λz=>.inr ca_)]
   .rw[HP λz=>c (hg.mp z)];by_cases c2:Ew W a
    .rw[HY c2];obtain z|z|z:=c2
     .exact absurd ca_ c
     .exact absurd fj_ c
     .rw[z]
    .rw[HP c2]
  have eb:f2 Ak x! S_ b0!=some b:=p2 rfl;have f0:Aa 0 b0!=some bH_:=rfl;have hc:∀(K:s_),Gq [co!,hk_,cI_,b] M3 K->Ai 4 Gq uD_ b0! M3 K:=λK hK=>by
   simp only[Ai,Ab,Af,wl,f0,f3,ep,eb];exact⟨rfl,hK⟩
  refine hW (hc _ (a9s TQ ej_ (.inr (.inr (.inr ⟨[h,n],rfl⟩))) (by split;exact ha;exact iP _) hb (by show cc!<_;omega) λM' rows' ub c9 hF'=>?_))
  .obtain⟨z1,z2,_⟩:=jD wi q hq;exact⟨z1.sd,z2,z1.nn.1⟩
  .exact hR M' _ ac rows' ub c9 (F1.trans hF')
 by_cases c:a∈W.its
 .rw[IV c];exact key true ll_
 .rw[IF c];simp only[wl,er];exact key AQ! ll_
end
structure Pw(W:OW)(B:Nat):Prop where
 rows:cc!<=B
 its:h0_<=B
 txt:∀x,(aH_).length<=B
def Qe.len{rows rows':i!}(h:g3_):rows'.length<=rows.length+1:=by
 obtain⟨u,v,e1,e2,_⟩:=h;have Y:(dk!).length<=rows.length:=by unfold wo;exact NB _ _
 rw[e1,IG]at Y;rw[e2,IG,IE];omega
def Pw.stp{W:OW}{B:Nat}(l:cT_)(h:qv!):Pw W' bq!:=by
 have l1:=l.rows;have l2:=l.its;have l3:=l.txt;have same:Pw W bq!:=⟨v!,v!,λx=>by have:=l3 x;omega⟩;cases h with
 |put _ _ hg=>
  have:=hg.len;refine⟨by show _<=_;unfold Fo;simp only;omega,by unfold Fo;simp only[IG,LA];omega,jL!⟩;unfold Fo;simp only;split
  .simp
  .have:=l3 x;omega
 |mvY _ _ _ _ hg=>
  have:=hg.len;exact AX!
 |mvN=>exact same
 |drY _ _ hg=>
  have:=hg.len;exact AX!
 |drN=>exact same
 |@wrt a b s h m _ _ hs e=>
  split
  .refine AX_;unfold setT;simp only;split
   .obtain⟨u,v,e1,e2,_⟩:=sB b hE! au_;have:=l3 a;rw[e1,IG]at this;rw[e2];have b6:hl!<=16:=hs;simp only[IG,IK,List.length_zipIdx];omega
   .have:=l3 x;omega
  .exact same
 |cut=>
  split
  .refine AX_;unfold setT;simp only;split
   .unfold cutT;rw[IK];exact same.txt _
   .exact same.txt x
  .exact same
 |set=>
  split
  .exact⟨same.rows,same.its,same.txt⟩
  .exact same
section
variable{M:Mh}{R:D->Mh->Prop}{w:x7!}{rl:Addr->LR}{W:OW}{ρ:Ae}{pre:List D}
def b3c{i:Nat}{f:e!}{q:WS}{R:j!}(h:cf_)(k:q cf! M R):Ah (Am i (wl f)) q ρ M R:=by unfold Ah Am;rw[dI h];exact k
def c8a{g:WF}{f1 f2 f3 f4:e!}{K:s_}(Y:fu!)(L:hq!)(h3:pz!)(h4:f4 ρ=some d)(k:g [a,b,c,d] M K):Ai 4 g yO! ρ M K:=by unfold Ai Ab Af;rw[dI Y,dI L,dI h3,dI h4];exact fU!
def kT(h:ql_)(e:(k==k)=true):knd k ρ=some true:=by rw[c1l h,e]
def kF(h:ql_)(e:kG!=false):knd k' ρ=some false:=by rw[c1l h,e]
def GO:WS:=Av Ar! Xu Ar_
def GP:WS:=Av Aq! nF! (Av Aq_ nF_ GO)
def Zj:WS:=Av Ap_ Xv GP
def c4k:Xq=Ah nA! (Ah nA_ Zj):=c4l
def Ti(w:x7!)(x0 d nm:D):Ae:=[B_,O_,some d,fS_,none,none,none,none,none,none]
def dv0:Aa 0 AY!=some bH_:=rfl
def oU:Aa 2 AY!=some d:=rfl
def Zx(W:OW)(M:Mh)(w:x7!)(rl:dA!)(n d:D)(R:j!):Prop:=∀M' ac W' ρ',Stp W n d W'->Br M' w ac W'->Tn M rl M' ac->R cS! M'
def d0l{h n:Int}{B:Nat}{R:j!}(hL:ab_)(wi:Bs W)(au:cT_)(hB:eF!)(hn:AP!)(ha:Cy a)(hb:Mz b)
  (hR:Zx W M w rl ad_ es! R):Zj (Ti w x0 es! ad_) M R:=by
 show"!1";have l1:=au.rows;have l2:=au.its;refine ifT (kT oU c1n) ?_;exact c2r hL wi a! a! hn ha.sd bm hb.sd λM' ρ' ac rows' hg c9 hF=>hR M' ac _ ρ' (.put ha hb hg) c9 hF
def c6h{B:Nat}{R:j!}(hL:ab_)(wi:Bs W)(au:cT_)(hB:eF!)(ha:Cy a)(hb:Cy b)(hc:Mz c)
  (hR:Zx W M w rl nm hw_ R):Zj (Ti w x0 hw_ nm) M R:=by
 show"!1";obtain⟨kb,lf⟩:=cQ hb;have l1:=au.rows;refine iY (kF oU jH) ?_;refine ifT (kT oU a4q) ?_;refine hW (c8a dv0 (p1 oU) (p2 oU) (p3 oU) ?_);refine a9r hL wi a! ha.sd hb.sd hc.sd bm lf λM' W' Y L c9 hF=>?_;by_cases g:a∈W.its/\Ew W b/\¬Wn W.rows a b
 .obtain⟨rows',hg,e⟩:=Y g;rw[e]at c9;exact hR M' rl _ _ (.mvY ha hb hc g hg) c9 hF
 .rw[L g]at c9;exact hR M' rl _ _ (.mvN ha hb hc g) c9 hF
def c6i{B:Nat}{R:j!}(hL:ab_)(wi:Bs W)(au:cT_)(hB:eF!)(ha:Cy a)
  (hR:Zx W M w rl nm hx! R):Zj (Ti w x0 hx! nm) M R:=by
 show"!1";have l1:=au.rows;refine iY (kF oU jI) ?_;refine iY (kF oU iL) ?_;refine ifT (kT oU a4r) ?_;refine hW (c8a (c:=binn) (d:=.non) dv0 (p1 oU) rfl rfl ?_);refine a9r (kx:=pA_) hL wi a! ha.sd (iP _) G! bm rfl λM' W' Y L c9 hF=>?_;by_cases g:a∈W.its/\Ew W binn/\¬Wn W.rows a binn
 .obtain⟨rows',hg,e⟩:=Y g;rw[e]at c9;exact hR M' rl _ _ (.drY ha g hg) c9 hF
 .rw[L g]at c9;exact hR M' rl _ _ (.drN ha g) c9 hF
def d0k{p v:Int}{B:Nat}{R:j!}(hL:ab_)(wi:Bs W)(au:cT_)(hB:eF!)(ha:Cy a)(h0:0<=p)(h3:p<=3)
  (hR:Zx W M w rl nm kD_ R):Zj (Ti w x0 kD_ nm) M R:=by
 show"!1";have st:=Stp.set (W:=W) (n:=nm) (v:=v) ha h0 h3;refine iY (kF oU pI) ?_;refine iY (kF oU mW) ?_;refine iY (kF oU mX) ?_;refine anT (kT oU c1m) qv_ dC! dC!
 .show"#@";exact c2q hL wi c' bm dv0 oU h0 h3 λM' c9 hF=>hR M' rl _ _ st c9 hF
 .show"#?";refine anF (kF oU kY) ?_;refine anF (kF oU pJ) ?_;show"#8"
def c2p{h n:Int}{s:Str}{B:Nat}{R:j!}(hL:ab_)(wi:Bs W)(au:cT_)(hB:eF!)(ha:Cy a)(hb:Lc b)(hs:j7!)
  (hR:Zx W M w rl ad_ fw_ R):Zj (Ti w x0 fw_ ad_) M R:=by
 show"!1";have l2:=au.its;have l3:=au.txt a;have st:=Stp.wrt (W:=W) (n:=hk_) ha hb hs rfl;refine iY (kF oU kX) ?_;refine iY (kF oU jR) ?_;refine iY (kF oU jS) ?_;refine anF (kF oU a4m) ?_;refine anT (kT oU a8e) qv_ dC! dC!
 .show"#@";exact b2b hL wi a! a! c' bm hb.sd hs λM' ρ' c9 hF=>hR M' rl _ _ st c9 hF
 .show"#?";refine anF (kF oU a4n) ?_;show"#8"
def d0m{x y z m:Int}{B:Nat}{R:j!}(hL:ab_)(wi:Bs W)(au:cT_)(hB:eF!)(ha:Cy a)(h0:0<=z)(Y:1<=m)(L:z+m<=16)
  (hR:Zx W M w rl nm es_ R):Zj (Ti w x0 es_ nm) M R:=by
 show"!1";have l2:=au.its;have l3:=au.txt a;have st:=Stp.cut (W:=W) (n:=nm) (x:=x) (y:=y) ha h0 Y L;refine iY (kF oU pK) ?_;refine iY (kF oU mY) ?_;refine iY (kF oU mZ) ?_;refine anF (kF oU b1s) ?_;refine anF (kF oU kZ) ?_;refine anT (kT oU c1o) qv_ dC! dC!
 .show"#@";exact c2s (g4:=nm) (r5:=nm) (r6:=nm) (r7:=nm) (r8:=nm) hL wi a! a! c' bm Y a! λM' ρ' c9 hF=>hR M' rl _ _ st c9 hF
 .show"#?";show"#8"
def c0g(o:Op):Ak o.v bi!=some o.d:=by simp[Op.v,Ak,Dc,Ea]
def sS(o:Op):Ak o.v L_=some cP_:=by simp[Op.v,Ak,Dc,Ea]
def a3f(o:Op):Ak o.v aN_=some (.int o.n):=by simp[Op.v,Ak,Dc,Ea]
def c7w{f g:e!}(Y:f ρ=some a)(L:g ρ=some b):Aw (Ac f (Ac g Ag)) ρ=some hW_:=by simp[Aw,Ac,Ag,Y,L]
def d1m{o:Op}{B:Nat}(hL:ab_)(hw:cM!)(hn:o.nm∉pre)(hd:hJ!)(hu:Et o.d=none)(au:cT_)(hB:eF!)
  (hR:∀M' ac W',Stp W o.nm o.d W'->Br M' w ac W'->Tn M rl M' ac->R .non M'):Wc [co!,o.v] M R:=by
 refine j_;rw[c4k];have e3:f2 Ak v_ al_ A0_=some o.d:=c0g o;refine b3c (ρ:=A0_) e3 ?_;have e0:Aw uB! A1!=some o.nm:=c7w (sS o) (a3f o);refine b3c (ρ:=A1!) e0 ?_;generalize hK:xk_=K;have ii:Zx W M w rl o.nm o.d K:=λM' ac W' ρ' Y L h3=>by rw[<-hK];exact hR M' ac W' Y L h3
 have m7:o.nm∉W.its:=λz=>hn (hw.its _ z);clear hR hK e3 e0 hn;obtain⟨h,n,tm,d⟩:=o;generalize Op.v ⟨h,n,tm,d⟩=v;change Zj (Ti w v d ad_) M K;change Zx W M w rl ad_ d K at ii;change D.tup X!∉W.its at m7;change DG d at hd;change Et d=none at hu;cases hd with
 |put ha hb=>exact d0l hL hw.inv au hB m7 ha hb ii
 |move ha hb hc=>exact c6h hL hw.inv au hB ha hb hc ii
 |drop ha=>exact c6i hL hw.inv au hB ha ii
 |write ha hb _ _ hs=>exact c2p hL hw.inv au hB ha hb hs ii
 |cut ha hs Y L=>
  obtain⟨_,_,_,e,_,_,_,_,z0,_⟩:=hs;cases e;exact d0m hL hw.inv au hB ha z0 Y L ii
 |set ha Y L _=>exact d0k hL hw.inv au hB ha Y L ii
 |undo _=>rw[gL]at hu;exact absurd hu (by simp[A1_])
 |redo _=>rw[gL]at hu;exact absurd hu (by simp[A2!])
end
def Pw.mono{W:OW}{B B':Nat}(l:cT_)(h:B<=B'):Pw W B':=⟨JB l.rows h,JB l.its h,λx=>JB (l.txt x) h⟩
section
variable{M:Mh}{R:D->Mh->Prop}{w:x7!}{rl:Addr->LR}{W:OW}{ρ:Ae}{pre:List D}
def Br.keep{M':Mh}(h:ab_)(k:pX_):Br M' w rl W:=by
 show"!z";refine⟨wt,wn,qa,⟨?_,?_,?_,fE_,hA.rw_,hA.rt,hA.rn,bz!⟩⟩
 .rw[k w qm_];exact hA.mw
 .rw[k wt qd_];exact hA.mt
 .rw[k wn Af!];exact hA.mn
 .obtain⟨Y,L⟩:=hA.mq i hi;exact⟨(k _ qe_).trans Y,L⟩
 .rw[k b hb];show"#%"
def Br.live(h:ab_)(hb:rl b≠.oth):M b≠none:=by obtain⟨wt,wn,qa,hA⟩:=h;exact hA.live b hb
def d3u{ep:Nat}{fo fa fb:e!}(hp:bW!)(h0:lm_)(Y:qw!)(L:fb ρ=some z)(hk:cl!)(K:s_)(hK:K ((hZ!).getD z) M):Hc dq_ hL_ hL! ρ M K:=by
 have c:Ee M E!=some k4!:=by simp[Ee,hp]
 simp only[Hc,wl,h0,Y,L,c,Dz,hk];exact hK
def vH{g:WF}{f1 f2:e!}{K:s_}(Y:fu!)(L:hq!)(k:g aq! M K):Ai 2 g xj_ ρ M K:=by unfold Ai Ab Af;rw[dI Y,dI L];exact fU!
def a1v{g:WF}{f1:e!}{K:s_}(Y:fu!)(k:g [a] M K):Ai 1 g (Ab kd_ Af) ρ M K:=by unfold Ai Ab Af;rw[dI Y];exact fU!
def GC:WT:=Gu uU! uV_
def GE:WS:=Av GC uW! Bn
def d3n{ft:WT}{q1 q2:WS}{b:Bool}{R:j!}(h:A2_)(k1:At!)(k2:At_):Av ft q1 q2 ρ M R:=by
 unfold Av;refine h _ ?_;cases b with
 |true=>rw[k_];exact k1 rfl
 |false=>rw[W_];exact k2 rfl
def c3o{ft fu:WT}{b:Bool}{c:Bool}(h:A2_)(L:b=true->∀K:Bool->Mh->Prop,K c M->fu ρ M K)(K:fK_)(hK:K (b&&c) M):Gu ft fu ρ M K:=by
 unfold Gu;refine h _ ?_;cases b with
 |true=>rw[k_];exact L rfl K (by simpa using hK)
 |false=>rw[W_];simpa using hK
def c5l{e0:Nat}{x:Op}(lg:A3!)(hd:DG x.d)(hp:M p=some (.dct kb e0))(K:fK_)
  (hK:K (decide A3_) M):GC qw_ M K:=by
 obtain⟨k,r,e,hn,hs⟩:=d3x hd;have i0:f2 Ak mX! C! qw_=some U!:=c1t e;have hu:(! p7!)=decide qx!:=by
  cases hu:Et x.d with
  |none=>
   obtain⟨Y,L⟩:=hn hu;rw[zT_,p7_,Y,L];rfl
  |some u=>
   obtain⟨g1,g2,hk,jc⟩:=hs u hu;rw[b2s hk];rfl
 obtain⟨kn,gc⟩:=b1l x;have hz:(∃b:Bool,(kget kb x.nm).getD Q!=.bl b/\(b=true↔kget wd x.nm=some bk_)):=by
  obtain⟨Y,L⟩|⟨k',Y,L⟩:=lg x.nm
  .exact⟨false,by rw[L];rfl,by rw[Y];simp⟩
  .refine⟨k'=="undo",by rw[L];rfl,?_⟩;rw[Y];show"!L"
   .intro z;rw[eq_of_beq z]
   .intro z;rw[D.str.inj (JJ z)];exact LF _
 obtain⟨b,hb1,vn⟩:=hz;have e2:Aw uU_ qw_=some x.nm:=c7w (sS x) (a3f x);refine c3o (b:=decide qx!) (c:=!b) (λK' vc=>?_) (λ_ K' vc=>?_) K ?_
 .unfold wT w2;rw[dI i0,dI (f:=fC nu!) rfl,rG];rw[hu];exact vc
 .unfold Ip wT;refine d3u hp rfl e2 rfl gc _ ?_;rw[hb1];exact vc
 .have:(decide qx!&&!b)=decide A3_:=by
   by_cases c1:Et x.d=none
   .by_cases c2:kget wd x.nm=some bk_
    .rw[vn.mpr c2];simp[c2]
    .have:b=false:=by
      cases b with
      |true=>exact absurd (vn.mp rfl) c2
      |false=>rfl
     rw[this,IV c1,IV (⟨c1,c2⟩:_/\_)];rfl
   .rw[IF c1,IF λz:_/\_=>c1 z.1];rfl
  rw[this];exact hK
def a3z{e0:Nat}(lg:A3!):
  ∀(os:f_) (x1:D) (y:ao!) (M:Mh) (rl:dA!) (W:OW) (pre:c!) (B:Nat) (R:j!),(∀x∈os,DG x.d)->zD!->(kY_).Nodup->Br M w rl W->Rt W pre->Pw W B->B+20*ap_<3800->M p=some (.dct kb e0)->rl p=.oth->
   (∀M' ac W' y',Run W pV_ W'->Br M' w ac W'->zD_->Pw W' (B+20*ap_)->Tn M rl M' ac->R (.nx [R_,B_,ap!,y']) M')->
   Ig Q_ ae_ GE a1! [R_,B_,ap!,y] M R
 |[],x1,y,M,rl,W,pre,B,R,_,_,_,hL,hw,au,_,_,_,hR=>⟨trivial,hR M rl W y .nil hL ⟨pre,hw⟩ (au.mono a!) .refl⟩
 |x::os,x1,y,M,rl,W,pre,B,R,hd,hp,nd,hL,hw,au,hB,yb,jy,hR=>by
  refine aJ!;simp only[IE]at hB hR;rw[HV,IJ]at nd;have jr:=hd x HQ;refine d3n (c5l lg jr yb) dC! dC!
  .have c':=KM c;have ee:Jf wd hS!=x::Jf wd os:=by unfold Jf;rw[JY A4_]
   refine hW (vH rfl rfl (d1m hL hw kZ_ jr c'.1 au a! λM1 dm W1 hs TQ hF=>?_));have hq:=hF p (by rw[yb];simp) jy;refine a3z lg os x1 pW! M1 dm W1 (pre++[x.nm]) bq! R pW_ zG_ nd.2 TQ (a2h hs hw kZ_) (au.stp hs) a! (hq.1.trans yb) hq.2 (λM' ac W' y' g1 g2 g3 g4 g5=>hR M' ac W' y' (by rw[ee];exact .cons hs g1) g2 g3 A5_ (hF.trans g5));obtain z|z:=HX.mp z
   .exact hp y eb! z
   .rw[HZ]at z;exact nd.1 zH!
  .have c':=PB c;have ee:Jf wd hS!=Jf wd os:=by unfold Jf;rw[JQ A4_]
   exact a3z lg os x1 pW! M rl W pre bq! R pW_ pX! nd.2 hL hw (au.mono a!) a! yb jy (λM' ac W' y' g1 g2 g3 g4 g5=>hR M' ac W' y' (by rw[ee];exact g1) g2 g3 A5_ g5)
def d4p{N:Mh}(Y:N w=none)(L:Bg N w B! wt=none)(h3:Bg qx_ wt B! wn=none):
  ∃rl,Br (Bg A6_ w A7!) w rl W0/\(∀b,N b≠none->Bg A6_ w A7! b=N b/\rl b=.oth)/\Bg A6! wn B! w=some B!:=by
 have e1:w≠wt:=aV (N:=Bg N w B!) pO_ L;have e2:w≠wn:=aV (N:=qy!) (by rw[mup_ne e1,mup_same];simp) h3;have e3:wt≠wn:=aV (N:=qy!) pO_ h3;have ar:∀b,N b≠none->b≠w/\b≠wt/\b≠wn:=λb hb=>by
  have a1:b≠w:=aV hb Y;have a2:b≠wt:=aV (N:=Bg N w B!) (by rw[h7!];exact hb) L;exact⟨a1,a2,aV (N:=qy!) (by rw[mup_ne a2,h7!];exact hb) h3⟩
 refine⟨λc=>if c=w then .w else if c=wt then .wt else if c=wn then .wn else .oth,⟨wt,wn,λ_=>w,⟨⟨3,mup_same⟩,qy_,qy_,as!,k_,?_,?_,bz!⟩⟩,bz!,?_⟩
 .rw[mup_ne (HR e1),mup_ne e3,mup_same];rfl
 .rw[mup_ne (HR e2),mup_same];rfl
 .show(if wt=w then _ else _)=_;rw[HP (HR e1),k_]
 .show(if wn=w then _ else _)=_;rw[HP (HR e2),HP (HR e3),k_]
 .by_cases a1:b=w
  .rw[a1,mup_same];simp
  .rw[h7!];by_cases a3:b=wn
   .rw[a3,mup_same];simp
   .rw[mup_ne a3];by_cases a2:b=wt
    .rw[a2,mup_same];simp
    .exact absurd (by simp[a1,a2,a3]) hb
 .obtain⟨a1,a2,a3⟩:=ar b hb;exact⟨by rw[h7!,mup_ne a3,mup_ne a2,h7!],by simp[a1,a2,a3]⟩
 .rw[mup_ne e2,mup_ne e1,mup_same]
def d1l:Pw W0 0:=⟨IM _,IM _,λ_=>IM _⟩
def d3m:((hV_).map c_).Nodup:=by
 refine IJ.mpr ⟨?_,IJ.mpr ⟨?_,A8!⟩⟩
 .intro z;obtain z|z:=HN.mp z
  .exact c7e z
  .exact c7f qA!
 .intro z;exact c7b qA!
def c5p:∀q∈k3 a b c,(Db q.1).isSome=true:=λq hq=>by
 obtain rfl|hq:=HN.mp hq
 .rfl
 .obtain rfl|hq:=HN.mp hq
  .rfl
  .rw[HZ.mp hq];rfl
def b6f:Vy=Ah uT!
 (Ah uT_
 (Ah (Df nt_ Q_ GE)
 cv_)):=rfl
def c6j{f:WE->WS}{ρ:Ae}{K:s_}(hK:∀w M' rl,M w=none->Br M' w rl W0->pM_->K bH_ M'):
  Pk uS! ρ M K:=by
 intro w hw;refine pc (x:=.str "rows") rfl ?_;rw[dI (f:=Dj Ag) (d:=ll!) rfl];refine pc (x:=.str "texts") rfl ?_;intro wt ht;refine pc (x:=A9_) rfl ?_;intro wn hn;obtain⟨rl,Y,L,h3⟩:=d4p hw ht hn;exact⟨h3,by show 3<=1000;decide,c5p,d3m,hK w _ rl hw Y L⟩
def a9q{ops:f_}(nd:ex_)(nn:zI_)(hl:cN_)(hd:hK!)
  (hR:∀w M' rl W',M w=none->Run W0 fM_ W'->Br M' w rl W'->zJ!->Pw W' 1500->pM_->R bH_ M'):Mr ck_ M R:=by
 refine j_;rw[b6f];have hp:(be_).Perm ops:=bP ops;unfold Ah Am;refine c6j (f:=λ_=>Bn) λw M1 rl hw hL fr=>?_;refine a1v (a:=ey!) rfl (b1q nd hl hd λp M2 ep ff f8 pj=>?_);have rp:rl p=.oth:=PN λz=>hL.live z ff;have yc:Br M2 w rl W0:=hL.keep λc hc=>pj c λz=>hc (by rw[z];exact rp);unfold Df Bw;refine a1v (a:=ey!) rfl (xG nd hl ?_);refine a3z (wd:=pL_) (wI be_ [] [] λx=>.inl bi_) be_ _ none M2 rl W0 [] 0 _ (λx J=>hd x zK!) zK_ zL! yc b5l d1l k2! f8 rp λM' ac W' y' g1 g2 g3 g4 g5=>?_;refine hR w M' ac W' hw g1 g2 g3 (g4.mono k2!) λb hb=>?_;obtain⟨e1,e2⟩:=fr b hb;have e3:M2 b=M1 b:=pj b λz=>by rw[<-e1,z,ff]at hb;exact hb rfl
 obtain⟨e4,e5⟩:=g5 b zL_ e2;exact⟨e4.trans (e3.trans e1),e5⟩
def zB(h:ab_)(J:aZ!)(hk:aD!)(hl:Ba!)(hj:pC_)(hR:R v M):Hl [co!,x] M R:=by
 refine j_;show Az (Ql _ (Bf 1 [] uZ! _ _ _)) k9! M _;unfold Az Ql Bf Bw;rw[b8e (ρ:=k9!) h rfl (fx:=Aa 1) rfl hk J];refine qA_;refine cP (λd=>match d with|.tup [_,_,.bl b]=>b|_=>false) (λd=>match d with|.tup [_,c,_]=>c|_=>.non) trivial _ _ bG_ ?_
 .show"!=";refine⟨[h2_],rfl,ew_,dw_⟩
  .have e1:fT dN_ [h2_]=some q.2.2:=by
    have:f2 Ak n! S_ [h2_]=some qo!:=d1z;show"!J"
   unfold De;rw[e1];exact hK
  .have e1:f2 Ak n! w! [h2_]=some q.2.1:=d2a;rw[dI e1];exact hK
 .have e2:((((aH_).map Be).filter λd=>match d with|.tup [_,_,.bl b]=>b|_=>false).map λd=>match d with|.tup [_,c,_]=>c|_=>.non)=(dv_).map kK!:=by
   unfold Ux;rw[MH,JL];rfl
  rw[e2];show Dz (Nk (.str dt_) _) _;rw[hj];exact hR
def a9j:∀(l:ah!),(∀q∈l,∃c:Nat,q.2.1=.str ar!)->∃cs:List Nat,l.map kK!=cs.map Pe/\cH_=av!
 |[],_=>xR_
 |q::l,h=>by
  obtain⟨cs,e1,e2⟩:=a9j l λx J=>h x aU_
  obtain⟨c,e⟩:=h q HQ;exact⟨c::cs,by rw[HV,HV,e1,e];rfl,by rw[IE,IE,e2]⟩
def a8h(hw:cM!)(J:aZ!)(hl:Ba!):∃s,Nk i5_ yY_=some aT_:=by
 obtain⟨cs,e1,e2⟩:=a9j dv_ λq hq=>hw.chr x J q (pD_).1
 have ls:(dv_).length<=(aH_).length:=NB _ _;rw[e1];refine⟨Txt.join dt_ hy_,?_⟩;show((Qm ku_).bind λys=>if(ku!).sum+ad!*(dt_).length<=big then some (D.str (Txt.join dt_ ys))else none)=_;rw[sC];show k6_=_;rw[HY (by rw[a2g,a1m];unfold big;omega)]
end
end K24
namespace K24
open PySem L2 DL
variable{t:Au}
abbrev Yg:Nat:=1000000000000000000000000000000000000000000000000000000000000
def a5f{i:Int}(h:gw!<Yg):Fw [cu!]=some z_:=by
 have:iX!<1000000000000000000000000000000000000000000000000000000000000:=by unfold Yg at h;split<;>omega
 push_cast[Fw,Rc,this]
def a5h{i k:Int}(h:gw!<Yg)(h0:0<=i)(Y:i<k):Hi [cu!,hv!]=some z_:=by push_cast[Hi,Rf,a5f h,h0,Y]
def a5g{i:Int}(h:gw!<Yg)(Y:1<=i):Dx [cu!]=some z_:=by push_cast[Dx,Nh,a5f h,Y]
def uA(h:NameG x):Ed [x]=some z_:=by
 obtain⟨a,b,rfl,Y,L,h3,h4⟩:=h
 push_cast[Ed,Pb,a5h (i:=a) (k:=16) fW_ Y L,a5g (i:=b) fW_ h3]
def vB(h:Xx x):Ec [x]=some z_:=by
 obtain⟨a,b,c,rfl,Y,L,h3,h4,h5,h6⟩:=h
 push_cast[Ec,Ls,uA ⟨a,b,rfl,Y,L,h3,h4⟩,a5h (i:=c) (k:=16) fW_ h5 a!]
def pN(h:Cy x):Hh [x]=some z_:=by
 have n:∀s,Ed [dp_]=some Q!:=λs=>by push_cast[Ed,Pb]
 obtain rfl|rfl|h:=h
 .push_cast[Hh,Mn,n,gU]
 .push_cast[Hh,Mn,n,gU]
 .push_cast[Hh,Mn,uA h]
def a1n(h:Mz x):Fd [x]=some z_:=by
 obtain rfl|h:=h
 .push_cast[Fd,Kn]
 .obtain⟨a,b,rfl,_⟩:=id h
  push_cast[Fd,Kn,uA h]
def c2m(h:Lc x):Gc [x]=some z_:=by
 obtain rfl|h:=h
 .push_cast[Gc,Lv]
 .obtain⟨a,b,c,rfl,_⟩:=id h
  push_cast[Gc,Lv,vB h]
def b4x{i:Int}(h0:0<=i)(Y:i<=3):Dw [cu!]=some z_:=by push_cast[Dw,Re,a5h (i:=i) (k:=4) fW_ h0 a!]
def d0g{s:Str}(h:Uh s=true)(Y:1<=aC!)(L:j7!):Kh [dp_]=some z_:=by
 unfold Uh at h;rw[IZ,JA]at h;have hl:aC!<=big:=by unfold big;omega
 have hc:=yV cK_ rfl s.cps.toList h.2;have ic:(List.map cN! s.cps.toList).all id=true:=by simp
 have z1:1<=kt_:=by omega
 have z2:kt_<=16:=by omega
 have hz:hl!<=big:=by simpa[Str.length]using hl
 have TR:Hx 1 [] (AR n!) E_ a3_ iB! [some aT_]=some (.lst Bb_):=by
  show(if(s.cps.toList.map λc=>D.str ar!).length<=big then Option.map D.lst (Fp E_ a3_ iB! cK_ (s.cps.toList.map λc=>.str ar!))else none)=_;rw[IK,HY hz,hc];rfl
 have hall2:Rr [.lst Bb_]=some z_:=by
  simp only[Rr,zA,OT,ic]
 push_cast[Kh,Sm,TR,hl,z1,z2,hall2]
def d0e(nd:t.nd):Ll t t.A0=some Hh/\Ll t t.A5=some Fd/\Ll t t.A6=some Gc/\Ll t t.A7=some Kh/\Ll t t.A8=some Ec/\
  Ll t t.A9=some Dx/\Ll t t.B0=some Dw/\Ll t t.B1=some Fw/\Ll t t.B2=some Ed:=by
 unfold Au.nd at nd;simp only[IJ,HN,JF,KY,ON]at nd;unfold Ll;refine⟨?_,?_,?_,?_,?_,?_,?_,?_,?_⟩<;>grind
def vF(ρ:Ae)(oo:ρ=qB!):∀(cs:qB_),(∀c∈cs,∃g,Ll t c.1=some g/\g [c.2]=some z_)->
  Fp iE! a3_ iD_ ρ lo!=some kh_/\(lo!).length=cH_
 |[],_=>bi_
 |c::cs,h=>by
  have ih:=vF ρ oo cs λx J=>h x aU_;obtain⟨g,Y,L⟩:=h c HQ;subst oo;refine⟨?_,by simp only[HV,Ld,IE,ih.2]⟩;simp only[HV,Ld,Fp,ih.1];simp[Rq,Bd,Pg,Ac,Aa,Ag,Y,L]
def a1w:∀(cs:qB_),Nn xx_=some xy!
 |[]=>rfl
 |c::cs=>by simp only[HV,Nn,a1w cs,OT]
def jJ(cs:qB_)(h:∀c∈cs,∃g,Ll t c.1=some g/\g [c.2]=some z_)(hl:cH_<=1000):
  Hu t [.tup qC_,.tup qC!]=some z_:=by
 have hc:=vF qB! rfl cs h;have hz:cH_<=big:=by unfold big;omega
 have TR:Hx 2 [] (AQ v_ n!) iE! a3_ iD_ [some (.tup qC_),some (.tup qC!)]=some (.lst kh_):=by
  show(if(lo!).length<=big then Option.map D.lst (Fp iE! a3_ iD_ qB! lo!)else none)=_;rw[hc.2,HY hz,hc.1];rfl
 have ic:Rr [.lst kh_]=some z_:=by
  simp only[Rr,a1w,OT];simp
 push_cast[Hu,Ps,TR,ic]
def a9e(x:D)(r:c!):Bj (.tup (x::r)) fz_ none=some (.tup r):=by
 have Y:HT.sIx (aX_+1) 0 fz_=1:=by
  simp[HT.sIx]
 have L:HT.sIx (aX_+1) (aX_+1) none=aX_+1:=by simp[HT.sIx]
 simp[Bj,Dk,Y,L]
def jA{k:Str}(hk:(gn!).lookup k=some (.tup fs))(hp:Hu t [.tup r,.tup fs]=some z_)(hc:k≠"cut"):Iv t [.tup ci_]=some z_:=by
 have h0:¬(hv_+1=0):=by omega
 have he:Ba (.int (hv_+1)) L_=some Q!:=by simp[Ba,Bi,Il,En,h0]
 push_cast[Iv,Pc,he,Yx,hk,We,hp,a9e,hc]
def d0j(nd:t.nd)(h:DG d):Iv t [d]=some z_:=by
 obtain⟨i1,i2,i3,i4,i5,i6,i7,i8,i9⟩:=d0e nd;have two:∀{a b:Addr×D} {P:qD_},P a->P b->∀c∈aq!,P c:=λY L c hc=>by
  simp only[HN,JF,KY]at hc;obtain rfl|rfl:=hc
  .exact Y
  .exact L
 have yd:∀{a b c:Addr×D} {P:qD_},P a->P b->P c->∀x∈f7_,P x:=λY L h3 c hc=>by
  simp only[HN,JF,KY]at hc;obtain rfl|rfl|rfl:=hc
  .exact Y
  .exact L
  .exact h3
 have one:∀{a:Addr×D} {P:qD_},P a->∀x∈[a],P x:=λY c hc=>by rw[HZ.mp hc];exact Y
 cases h with
 |@put a b Y L=>exact jA rfl (jJ [fX!,(t.A5,b)] (two fX_ ⟨_,i2,a1n L⟩) d!) k!
 |@move a b c Y L h3=>exact jA rfl (jJ [fX!,(t.A0,b),(t.A5,c)] (yd fX_ ⟨_,i1,pN L⟩ ⟨_,i2,a1n h3⟩) d!) k!
 |@drop a Y=>exact jA rfl (jJ [fX!] (one fX_) d!) k!
 |@write a b s Y L h3 h4 h5=>exact jA rfl (jJ [fX!,(t.A6,b),(t.A7,.str s)] (yd fX_ ⟨_,i3,c2m L⟩ ⟨_,i4,d0g h3 h4 h5⟩) d!) k!
 |@cut a x y z m Y L h3 h4=>
  have hz:0<=z:=by obtain⟨_,_,_,e,_,_,_,_,q,_⟩:=L;cases e;exact q
  have hp:=jJ (t:=t) [fX!,(t.A8,.tup jY!),(t.A9,.int m)] (yd fX_ ⟨_,i5,vB L⟩ ⟨_,i6,a5g fW_ h3⟩) d!;have he:Ba (.int 4) L_=some Q!:=by simp[Ba,Bi,Il,En]
  have hk:(gn!).lookup ("cut":Str)=some (.tup r6_):=rfl;simp only[HV,MZ]at hp
  push_cast[Iv,Pc,he,Yx,hk,We,hp,a9e,h4]
 |@set a p n Y L h3 h4=>exact jA rfl (jJ [fX!,(t.B0,.int p),(t.B1,.int n)] (yd fX_ ⟨_,i7,b4x L h3⟩ ⟨_,i8,a5f h4⟩) d!) k!
 |@undo a Y=>exact jA rfl Be! k!
 |@redo a Y=>exact jA rfl Be! k!
def d4w{h n m:Int}(nd:t.nd)(Y:0<=h)(L:h<16)(h3:1<=n)(h4:n<=2000)(h5:1<=m)(h6:m<=1000)(hd:DG d):Cc t [.tup [aS_,aR!,el_,d]]=some z_:=by push_cast[Cc,Lu,uA ⟨h,n,rfl,Y,L,h3,h4⟩,a5g (i:=m) fW_ h5,d0j nd hd]
def nY(h:NameG x):Bi x=true/\Il x<=1:=by obtain⟨a,b,rfl,_⟩:=h;simp[Bi,By,Il,Dq]
def eW(h:Cy x):Bi x=true/\Il x<=1:=by
 obtain rfl|rfl|h:=h
 .simp[Bi,Il]
 .simp[Bi,Il]
 .exact nY h
def a2k(h:Mz x):Bi x=true/\Il x<=1:=by
 obtain rfl|h:=h
 .simp[Bi,Il]
 .exact nY h
def b3a(h:Lc x):Bi x=true/\Il x<=1:=by obtain rfl|⟨a,b,c,rfl,_⟩:=h<;>simp[Bi,By,Il,Dq]
def d3v(h:DG d):Bi d=true/\Il d<=2:=by
 cases h with
 |put Y L=>simp only[Bi,By,Il,Dq,eW Y,a2k L,MM,QN];have:=(fY!).2;have:=(a2k L).2;omega
 |move Y L h3=>simp only[Bi,By,Il,Dq,eW Y,eW L,a2k h3,MM,QN];have:=(fY!).2;have:=(eW L).2;have:=(a2k h3).2;omega
 |drop Y=>simp only[Bi,By,Il,Dq,eW Y,MM,QN];have:=(fY!).2;omega
 |write Y L=>simp only[Bi,By,Il,Dq,eW Y,b3a L,MM,QN];have:=(fY!).2;have:=(b3a L).2;omega
 |cut Y=>simp only[Bi,By,Il,Dq,eW Y,MM,QN];have:=(fY!).2;omega
 |set Y=>simp only[Bi,By,Il,Dq,eW Y,MM,QN];have:=(fY!).2;omega
 |undo Y=>simp only[Bi,By,Il,Dq,nY Y,MM,QN];have:=(nY Y).2;omega
 |redo Y=>simp only[Bi,By,Il,Dq,nY Y,MM,QN];have:=(nY Y).2;omega
variable{t:Au}
nonrec def hs(os:f_)(h:Int):List Op:=os.filter λo=>decide (o.h=h)
structure AZ(l:f_):Prop where
 num:∀(i:Nat) (o:Op),l[i]?=some o->o.n=cS_+1
 tim:l.Pairwise λa b=>a.tm<b.tm
structure Zd(o:Op):Prop where
 hh:o.h=0\/o.h=5\/o.h=15\/o.h=11\/o.h=12\/o.h=3
 t1:1<=o.tm
 t2:o.tm<=1000
 n1:1<=o.n
 n2:o.n<=2000
 dg:DG o.d
structure Hist(os:f_):Prop where
 ch:∀h,AZ h8!
 op:∀o∈os,Zd o
def AZ.nil:AZ []:=⟨λi o e=>by simp at e,jw_⟩
def AZ.snoc{l:f_}{o:Op}(h:AZ l)(e:o.n=(av!:Nat)+1)(ht:∀x∈l,x.tm<o.tm):AZ (l++[o]):=by
 refine⟨λi x J=>?_,?_⟩
 .obtain c|c:=LK i av!
  .rw[KA c]at J;exact h.num i x J
  .rw[JM c]at J;obtain z|z:=Nat.eq_zero_or_pos (i - av!)
   .rw[z]at J;simp at J;subst J;rw[e];omega
   .rw[JW am!]at J;cases J
 .rw[NO];exact⟨h.tim,QC _ _,λa ha b hb=>by rw[lx!];exact ht a ha⟩
def cE{a b:f_}{h:Int}:hs (a++b) h=hs a h++hs b h:=by unfold hs;rw[PJ]
def fD{o:Op}{h:Int}:hs [o] h=if o.h=h then[o]else[]:=by
 unfold hs;by_cases c:o.h=h
 .rw[HY c,JY Bf!];rfl
 .rw[HP c,JQ Bf!];rfl
def iE{os:f_}{h:Int}{o:Op}:o∈hs os h↔o∈os/\o.h=h:=by unfold hs;rw[KQ];simp
def Hist.nil:Hist []:=⟨λh=>AZ.nil,λo ho=>by cases ho⟩
def Hist.snoc{os:f_}{o:Op}(h:lp_)(hf:Zd o)(e:o.n=((hs os o.h).length:Nat)+1)(ht:∀x∈os,x.h=o.h->x.tm<o.tm):Hist qE!:=by
 refine⟨λk=>?_,aG_⟩
 .rw[cE,fD];by_cases c:o.h=k
  .rw[HY c];subst c;exact(h.ch _).snoc e λx J=>ht x (iE.mp J).1 (iE.mp J).2
  .rw[HP c,IR];exact h.ch k
 .obtain z|z:=HX.mp J
  .exact h.op x z
  .rw[aL_];exact hf
structure HW(i:Nat)(os:f_)(c0 c1 c2 t0 t1 t2:Int):Prop where
 hist:Hist os
 len:ap_=i
 q0:c0=Bg_
 q1:c1=Bh!
 q2:c2=Bh_
 u0:∀x∈os,x.h=0->x.tm<=t0
 u1:∀x∈os,x.h=5->x.tm<=t1
 u2:∀x∈os,x.h=15->x.tm<=t2
 b0:0<=t0/\t0<=3*i
 b1:0<=t1/\t1<=3*i
 b2:0<=t2/\t2<=3*i
 wh:∀x∈os,x.h=0\/x.h=5\/x.h=15
def HW.nil:HW 0 [] 0 0 0 0 0 0:=⟨.nil,rfl,rfl,rfl,rfl,lq!,lq!,lq!,H!,H!,H!,lq!⟩
def Zd.hb{o:Op}(h:Zd o):0<=o.h/\o.h<16:=by have:=h.hh;omega
def Zd.ok{o:Op}(h:Zd o):Vk o.v:=⟨o.h,o.n,o.tm,o.d,rfl,h.hb.1,h.hb.2,h.n1,h.n2,h.dg⟩
section
variable{i:Nat}{os:List Op}{c0 c1 c2 t0 t1 t2:Int}{m:Int}{dd:D}
def tW(os:f_)(h:Int):(h8!).length<=ap_:=NB _ _
def HW.opok(hw:h9!):∀o∈os.map Op.v,Vk o:=λo ho=>by
 show"#3";exact(hw.hist.op x J).ok
def c9n(m:Int):0<=m / 3%3/\m / 3%3<3:=⟨KR _ b_,KD _ b_⟩
def wh1{o:Op}(h:∀x∈os,x.h=0\/x.h=5\/x.h=15)(ho:o.h=0\/o.h=5\/o.h=15):∀x∈os++[o],x.h=0\/x.h=5\/x.h=15:=λx J=>(HX.mp J).elim (h x) λz=>by rw[aL_];exact ho
def HW.tb(hw:h9!):∀x∈os,qE_/\x.tm<=3*i:=λx J=>⟨hw.wh x J,by
 have b0:=hw.b0;have b1:=hw.b1;have b2:=hw.b2;obtain z|z|z:=hw.wh x J
 .have:=hw.u0 x J z;omega
 .have:=hw.u1 x J z;omega
 .have:=hw.u2 x J z;omega⟩
def HW.step0(hw:h9!)(h0:0<=m)(hi:i<100)(hd:DG dd):HW a5! (os++[⟨0,c0+1,t0+1+m / 3%3,dd⟩]) (c0+1) (c1) (c2) (t0+1+m / 3%3) t1 t2:=by
 obtain⟨m1,m2⟩:=c9n m;have hc:=hw.q0;have hb:=hw.b0;have hl:=tW os 0;rw[hw.len]at hl;refine⟨hw.hist.snoc ⟨c0!,by show 1<=t0+1+m / 3%3;omega,by show t0+1+m / 3%3<=1000;omega,by show 1<=c0+1;omega,by show c0+1<=2000;omega,hd⟩ (by show c0+1=Bg_+1;omega) (λx J hh=>by have:=hw.u0 x J hh;show x.tm<t0+1+m / 3%3;omega),qF!,by rw[cE,fD,k_,IG];have:=hw.q0;simp;omega,by rw[cE,fD,HP Bj!,IR];exact hw.q1,by rw[cE,fD,HP Bj_,IR];exact hw.q2,cU_,cU_,cU_,qF_,qG!,qG_,wh1 hw.wh G!⟩
 .obtain z|z:=HX.mp J
  .have:=hw.u0 x z hh;omega
  .show"#G"
 .obtain z|z:=HX.mp J
  .exact hw.u1 x z hh
  .rw[aL_]at hh;exact absurd hh Bj!
 .obtain z|z:=HX.mp J
  .exact hw.u2 x z hh
  .rw[aL_]at hh;exact absurd hh Bj_
def HW.step1(hw:h9!)(h0:0<=m)(hi:i<100)(hd:DG dd):HW a5! (os++[⟨5,c1+1,t1+1+m / 3%3,dd⟩]) (c0) (c1+1) (c2) t0 (t1+1+m / 3%3) t2:=by
 obtain⟨m1,m2⟩:=c9n m;have hc:=hw.q1;have hb:=hw.b1;have hl:=tW os 5;rw[hw.len]at hl;refine⟨hw.hist.snoc ⟨.inr G!,by show 1<=t1+1+m / 3%3;omega,by show t1+1+m / 3%3<=1000;omega,by show 1<=c1+1;omega,by show c1+1<=2000;omega,hd⟩ (by show c1+1=Bh!+1;omega) (λx J hh=>by have:=hw.u1 x J hh;show x.tm<t1+1+m / 3%3;omega),qF!,by rw[cE,fD,HP Bk_,IR];exact hw.q0,by rw[cE,fD,k_,IG];have:=hw.q1;simp;omega,by rw[cE,fD,HP Bl!,IR];exact hw.q2,cU_,cU_,cU_,qF_,qG!,qG_,wh1 hw.wh dD_⟩
 .obtain z|z:=HX.mp J
  .exact hw.u0 x z hh
  .rw[aL_]at hh;exact absurd hh Bk_
 .obtain z|z:=HX.mp J
  .have:=hw.u1 x z hh;omega
  .show"#G"
 .obtain z|z:=HX.mp J
  .exact hw.u2 x z hh
  .rw[aL_]at hh;exact absurd hh Bl!
def HW.step2(hw:h9!)(h0:0<=m)(hi:i<100)(hd:DG dd):HW a5! (os++[⟨15,c2+1,t2+1+m / 3%3,dd⟩]) (c0) (c1) (c2+1) t0 t1 (t2+1+m / 3%3):=by
 obtain⟨m1,m2⟩:=c9n m;have hc:=hw.q2;have hb:=hw.b2;have hl:=tW os 15;rw[hw.len]at hl;refine⟨hw.hist.snoc ⟨.inr dD_,by show 1<=t2+1+m / 3%3;omega,by show t2+1+m / 3%3<=1000;omega,by show 1<=c2+1;omega,by show c2+1<=2000;omega,hd⟩ (by show c2+1=Bh_+1;omega) (λx J hh=>by have:=hw.u2 x J hh;show x.tm<t2+1+m / 3%3;omega),qF!,by rw[cE,fD,HP Bl_,IR];exact hw.q0,by rw[cE,fD,HP Bm!,IR];exact hw.q1,by rw[cE,fD,k_,IG];have:=hw.q2;simp;omega,cU_,cU_,cU_,qF_,qG!,qG_,wh1 hw.wh (.inr fc_)⟩
 .obtain z|z:=HX.mp J
  .exact hw.u0 x z hh
  .rw[aL_]at hh;exact absurd hh Bl_
 .obtain z|z:=HX.mp J
  .exact hw.u1 x z hh
  .rw[aL_]at hh;exact absurd hh Bm!
 .obtain z|z:=HX.mp J
  .have:=hw.u2 x z hh;omega
  .show"#G"
end
section
variable{ρ:Ae}
def b9b{i:Nat}{fx fv:e!}{j:Int}{ds:c!}{k:Nat}(hv:fv ρ=some d)(J:Bm_)(hl:qH!)(hk:Ea ds.length j=some k):Vb i fx fv ρ=some (.nx xq_):=by unfold Vb;rw[hv,J,hl];show(o2!).map _=_;rw[hk];rfl
def a4w{i:Nat}{fx:e!}{j:Int}(J:Bm_)(hl:qH!)(h:Dc ds j=some d):Mg i fx ρ=some d:=by unfold Mg;rw[J,hl];exact h
def d1i{i:Nat}{f:e!}{ds:c!}(hf:cf_)(hl:qH!)(hb:h!<big):Px i f ρ=some xn_:=by unfold Px;rw[hf,hl];show(if h!<big then _ else _)=_;rw[HY hb]
def oW{fs:as_}{ds:c!}(h:hA_)(hl:yf!):Aw fs ρ=some dm!:=by unfold Aw;rw[h];show yf_=_;rw[yg!]
def c6d{f:e!}(h:cf_)(n:Ei d=true):Oq f ρ=some d:=by unfold Oq;rw[h];show(if Ei d=true then _ else _)=_;rw[HY n]
end
def c0u{j:Int}:Eh (.int 7) cH!=some (.int (7*j)):=rfl
def b7u{ns:w_}{base j m kk a c t:Int}{os cs ts:c!}{dd:D}{k:Nat}(em:Bv [ds_,.int (base+7*j)]=some do!)(ed:Ks [ds_,.int (base+7*j+1),.lst os,.int 5]=some dd)(nd:Ei dd=true)(z:m%3=kk)
  (hc:Dc cs kk=some (.int c))(ht:Dc ts kk=some (.int t))(kc:Ea cs.length kk=some k)(kt:Ea ts.length kk=some k)(bv:Dc Bo! kk=some (.int (c+1)))(ht':Dc Bp_ kk=some Bp!)
  (ha:Dc [D.int 0,.int 5,.int 15] kk=some (.int a))(hb:ap_<big):
  Vp [aa_,au!,some N,some (.lst os),some (.lst cs),some (.lst ts),some cH!,x7,x8,x9]=some (.nx [aa_,au!,some N,some (.lst (os++[.tup [.int a,.int (c+1),.int (t+1+m / 3%3),dd]])),some (.lst Bo!),some (.lst Bp_),some cH!,some do!,some (.int kk),some dd]):=by
 refine(bK (iO (lR (bN rfl (bN Br! rfl)) em))).trans ?_;refine(bK (iO (dX rfl rfl ((tK b_).trans hm!)))).trans ?_;refine(bK (b9b (dX (a4w rfl rfl hc) rfl rfl) rfl rfl kc)).trans ?_;refine(bK (b9b (dX (dX (a4w rfl rfl ht) rfl rfl) (dX (dX rfl rfl rfl) rfl (tK b_)) rfl) rfl rfl kt)).trans ?_;refine(bK (iO (c6d (lR (bN rfl (bN (dX Br! rfl rfl) lt!)) ed) nd))).trans ?_;exact d1i (oW (bN (dX rfl rfl ha) (bN (a4w rfl rfl bv) (bN (a4w rfl rfl ht') hB_))) rfl) rfl hb
def b5n(ns:w_)(base:Int)(N:Nat)(hN:N<=100):∃os:List Op,Md [ds_,.int base,.int N]=some ia!/\ap_=N/\Hist os/\∀x∈os,qE_/\x.tm<=3*N:=by
 let P:Nat->Ae->Prop:=λi ρ=>∃(os:f_) (c0 c1 c2 t0 t1 t2:Int) (x6 x7 x8 x9:ao!),ρ=Bs_/\ap_=i/\HW i os c0 c1 c2 t0 t1 t2
 obtain⟨ρ',e,os,c0,c1,c2,t0,t1,t2,x6,x7,x8,x9,rfl,hl,hw⟩:=qS (bnd:=Cg 6) (q:=Vp) P fy_ 0
  lt_
  ⟨[],0,0,0,0,0,0,none,none,none,none,rfl,rfl,HW.nil⟩ (by
   rintro j d ρ hd ⟨os,c0,c1,c2,t0,t1,t2,x6,x7,x8,x9,rfl,hl,hw⟩;unfold Dl at hd;rw[JC]at hd;obtain⟨i',df,rfl⟩:=HU.mp hd;obtain⟨am,he⟩:=IL.mp df;rw[PH]at he;subst he;rw[MF]at am;have ho:∀o∈os.map Op.v,Vk o:=hw.opok;have qj:(a1!).length<=100:=by rw[IK];omega
   obtain⟨m,em,m0,_⟩:=iD ns (k:=base+7*(j:Nat));obtain⟨dd,ed,hd⟩:=c6l ns (base:=base+7*(j:Nat)+1) (most:=5) ho qj b_ b_;have nd:=b2c hd;have hb:(a1!).length<big:=by unfold big;omega
   have TM:m%3=0\/m%3=1\/m%3=2:=by omega
   obtain z|z|z:=TM
   .exact⟨_,_,rfl,qK_,_,_,_,_,_,_,_,_,_,_,_,qL!,er_,hw.step0 a! a! hd⟩
   .exact⟨_,_,rfl,qK_,_,_,_,_,_,_,_,_,_,_,_,qL!,er_,hw.step1 a! a! hd⟩
   .exact⟨_,_,rfl,qK_,_,_,_,_,_,_,_,_,_,_,_,qL!,er_,hw.step2 a! a! hd⟩)
 have UM:ap_=N:=by simpa[Dl]using hl
 refine⟨os,?_,UM,hw.hist,by have:=hw.tb;simpa[Dl]using this⟩;have hr:-1000<=(N:Int)/\(N:Int)<=100000:=by omega
 have hf:Rv (Eu x!) gL_ Vp lt_=some (.nx Bs_):=by
  have hi:Eu x! lt_=some fy_:=by
   simp[Eu,Aa,hr]
  unfold Rv;rw[hi];exact e
 have hq:Ri Bt!=some (.rt ia!):=by
  show sSeq (Mu 3 Ag) (sSeq (Mu 4 ja_) (sSeq (Mu 5 ja_) (sSeq (Rv (Eu x!) gL_ Vp) (Bl M!)))) _=_;rw[bK (ρ':=[aa_,au!,ia_,hU_,none,none,none,none,none,none]) rfl];rw[bK (ρ':=[aa_,au!,ia_,hU_,qJ_,none,none,none,none,none]) rfl];rw[bK (ρ':=lt_) rfl];rw[bK hf];rfl
 unfold Md Ci;rw[g2!];show(match Ri Bt! with|some (.rt d)=>some d|some (.nx _)=>some .non|none=>none)=_;rw[hq]
def d2q{o:Op}(nd:t.nd)(h:Zd o):Cc t [o.v]=some z_:=by exact d4w nd h.hb.1 h.hb.2 h.n1 h.n2 h.t1 h.t2 h.dg
def c0t{β:Type}{f:Op->β}(hf:∀a b,f a=f b->a.h=b.h):∀(os:f_),(∀h,((h8!).map f).Nodup)->(ib!).Nodup
 |[],_=>NS
 |o::os,H=>by
  have sub:∀h,(h8!).Sublist (hs hR_ h):=λh=>by unfold hs;exact(List.sublist_cons_self o os).filter _
  rw[HV,IJ];refine⟨cl_,c0t hf os λh=>((sub h).map f).nodup (H h)⟩;obtain⟨x,J,e⟩:=IH.mp z;have hh:=hf _ _ e;have H1:=H o.h;have:hs hR_ o.h=o::hs os o.h:=by unfold hs;rw[JY d!]
  rw[this,HV,IJ]at H1;exact H1.1 (IH.mpr ⟨x,iE.mpr ⟨J,hh⟩,e⟩)
def Hist.names{os:f_}(h:lp_):(kY_).Nodup:=by
 refine c0t Bt_ os λk=>?_
 .show"#A";exact e.1
 .have hn:=(lu_).num;rw[OX,PY,PL];intro i j hi hj WB e;have e1:=hn i _ (II hi);have e2:=hn j _ (II hj);show"#A";omega
def Hist.keys{os:f_}(h:lp_):(os.map Op.key).Nodup:=by
 refine c0t Bt_ os λk=>?_
 .simp only[Op.key,KZ]at e;exact e.2
 .rw[OX,PY];refine(lu_).tim.imp λ{a b} lm e=>?_;simp only[Op.key,KZ]at e;omega
end K24
namespace K24
open PySem L2 DL
open Classical
def Pu(f:WE)(ρ:Ae)(M:Mh)(d:D):Prop:=∀K:D->Mh->Prop,K d M->f ρ M K
def Uz(f:WT)(ρ:Ae)(M:Mh)(b:Bool):Prop:=∀K:Bool->Mh->Prop,K b M->f ρ M K
def Ru(g:WF)(ds:c!)(M:Mh)(d:D):Prop:=∀K:D->Mh->Prop,K d M->g ds M K
section
variable{M:Mh}{ρ:Ae}
def jE{α:Type}{x:α}{R:p1!}(h:R x):Dz eV! R:=h
def aP{f:e!}(h:cf_):Pu (wl f) ρ M d:=λK hK=>by rw[dI h];exact hK
def eO{a:x7!}{fs:aV!}{fo:WE}(h:Pu fo ρ M cE!)(hM:M a=some hp_)(hv:fs.lookup x=some v):Pu (Ay C x fo) ρ M v:=λK hK=>by
 unfold Ay;refine h _ ?_;have:Gw C x M cE!=some v:=by simp only[Gw,hM,JT,hv]
 rw[this];exact hK
def eF{g:bf!}{fa fb:WE}(ha:Pu fa ρ M x)(hb:Pu fb ρ M y)(hg:g M x y=some d):Pu (w2 g fa fb) ρ M d:=λK hK=>by
 unfold w2;refine ha _ (hb _ ?_);rw[hg];exact hK
def qD{ep:Nat}{fo fa fb:WE}(ho:Pu fo ρ M E!)(ha:Pu fa ρ M y)(hb:Pu fb ρ M z)(hp:bW!)(hk:cl!)(hd:(hZ!).getD z=d):Pu (Hc fo fa fb) ρ M d:=λK hK=>by
 have c:Ee M E!=some k4!:=by simp[Ee,hp]
 unfold Hc;refine ho _ ?_;rw[c];refine ha _ (hb _ ?_);rw[c,hk];show K ((hZ!).getD z) M;rw[hd];exact hK
def a0k{g:hS_}{f:WE}(h:Pu f ρ M x)(hg:g M [x]=some d):Pu (w1 g (Ab f Af)) ρ M d:=λK hK=>by
 unfold w1 Ab Af;refine h _ ?_;show Dz (g M [x]) λd=>K d M;rw[hg];exact hK
def iU{g:WF}{f1:WE}{a:D}(Y:lv_)(hg:Ru g [a] M d):Pu (Ai 1 g qM!) ρ M d:=λK hK=>by
 unfold Ai Ab Af;exact Y _ lw_
def cL{g:WF}{f1 f2:WE}{a:D}(Y:lv_)(L:Pu f2 ρ M b)(hg:Ru g aq! M d):Pu (Ai 2 g Bv_) ρ M d:=λK hK=>by
 unfold Ai Ab Af;exact Y _ (L _ lw_)
def a6y{g:WF}{f1 f2 f3:WE}{a:D}(Y:lv_)(L:Pu f2 ρ M b)(h3:Pu f3 ρ M c)(hg:Ru g f7_ M d):Pu (Ai 3 g Bw_) ρ M d:=λK hK=>by
 unfold Ai Ab Af;exact Y _ (L _ (h3 _ lw_))
def eK{g:WF}{fo f1:WE}{a:D}(h0:Pu fo ρ M N_)(ho:Dh C m M N_)(Y:lv_)(hg:Ru g [bc_,a] M d):Pu (Bb C m 2 g fo qM!) ρ M d:=λK hK=>by
 unfold Bb Ab Af;exact h0 _ ⟨ho,Y _ lw_⟩
def jC{f:WE}{b:Bool}(h:Pu f ρ M bK_):Uz (wT f) ρ M b:=λK hK=>by unfold wT;exact h _ hK
def a0l{f:ah_}{b:Bool}(h:f ρ=some b):Uz (De f) ρ M b:=λK hK=>by unfold De;rw[h];exact hK
def b0w{f:WT}{b:Bool}(h:Uz f ρ M b):Uz (Ip f) ρ M (!b):=λK hK=>by unfold Ip;exact h _ hK
def c7h{f g:WT}{b c:Bool}(h:Uz f ρ M b)(L:b=false->Uz g ρ M c)(e:b=true->c=true):Uz (Uw f g) ρ M c:=λK hK=>by
 unfold Uw;refine h _ ?_;cases b with
 |true=>rw[k_,<-e rfl];exact hK
 |false=>rw[W_];exact L rfl K hK
def fS{i:Nat}{f:WE}{q:WS}{R:j!}(h:lx_)(k:q cf! M R):Ah (Am i f) q ρ M R:=by unfold Ah Am;exact h _ k
def dD{f:WE}{R:j!}(h:lx_)(k:R a0_ M):Az f ρ M R:=by unfold Az;exact h _ k
def b0c{ft:WT}{q1 q2:WS}{R:j!}(h:Uz ft ρ M true)(k:q1 ρ M R):Av ft q1 q2 ρ M R:=by unfold Av;refine h _ ?_;rw[k_];exact k
def lY{ft:WT}{q1 q2:WS}{R:j!}(h:qN_)(k:du!):Av ft q1 q2 ρ M R:=by unfold Av;refine h _ ?_;rw[W_];exact k
def fN{ft:WT}{q1 q2:WS}{R:j!}(h:qN_)(k:du!):Ah (Av ft q1 Bn) q2 ρ M R:=by unfold Ah;exact lY h k
def DR(C:x7!)(x:Str)(fo:e!)(ρ:Ae)(y:D)(M:Mh)(Q:bf_):Prop:=wl fo ρ M λd M2=>match d with
 |.fn p=>(match M2 p with|some (.obj C' fs)=>C'=C/\bu_<100/\Q (Bg M2 p qi_)|_=>False)
 |_=>False
def vR{fo:e!}{f:WE}{R:j!}(h:f ρ M λy M1=>DR C x fo ρ y M1 λM2=>R aK_ M2):Fn C x dq_ f ρ M R:=h
def wR{fo:e!}{f:WE}{q:WS}{R:j!}(h:f ρ M λy M1=>DR C x fo ρ y M1 λM2=>q ρ M2 R):Ah (Fn C x dq_ f) q ρ M R:=h
def kI{fs vw:aV!}{fo:e!}{Q:bf_}(h0:lm_)(hM:M p=some hp_)(hl:bu_<100)(hf:Bq x y fs=vw)(k:Q (Bg M p (.obj C vw))):DR C x fo ρ y M Q:=by unfold DR;rw[dI h0];show(match M p with|some (.obj C' fs)=>C'=C/\bu_<100/\Q (Bg M p qi_)|_=>False);rw[hM];subst hf;exact⟨rfl,hl,k⟩
end
def iJ(h:cL!)(hd:Il d<=40):Eg d d=some Q!:=by unfold Eg;rw[h,yQ d h,IV hd];rfl
def c0h(o:Op):Ak o.v bx_=some fO!:=by simp[Op.v,Ak,Dc,Ea]
def iN:∀{ds:c!},(∀d∈ds,Bi d=true)->By ds=true
 |[],_=>by simp[By]
 |d::ds,h=>by
  unfold By;rw[h d HQ,iN λx J=>h x aU_];rfl
def kC{n:Nat}:∀{ds:c!},(∀d∈ds,Il d<=n)->Dq ds<=n
 |[],_=>by simp[Dq]
 |d::ds,h=>by
  unfold Dq;have Y:=h d HQ;have L:=kC λx J=>h x (HL d J);omega
def c5b{o:Op}(h:hJ!):Bi o.v=true/\Il o.v<=5:=by
 obtain⟨Y,L⟩:=d3v h;show"!L"
 .show By kK_=true;refine iN λd hd=>?_;simp only[HN,JF,KY]at hd;obtain rfl|rfl|rfl|rfl:=hd
  .rfl
  .rfl
  .rfl
  .exact Y
 .show Dq kK_+1<=5;have:Dq kK_<=2:=kC λd hd=>by
   simp only[HN,JF,KY]at hd;obtain rfl|rfl|rfl|rfl:=hd
   .simp[Il]
   .simp[Il]
   .simp[Il]
   .exact L
  omega
nonrec def hF(yy:Int)(ta wa:x7!)(out:D):List ci!:=[("ours",.int yy),("taken",.fn ta),("waiting",.fn wa),("outline",out)]
section
variable{yy:Int}{ta wa:x7!}{out:D}
def hF1:List.lookup Bz! dE!=some (D.int yy):=by kernel_rfl
def hF2:List.lookup Bz_ dE!=some (D.fn ta):=by kernel_rfl
def hF3:List.lookup BA! dE!=some (D.fn wa):=by kernel_rfl
def hF4:List.lookup qQ! dE!=some out:=by kernel_rfl
def hM1:List.lookup (Str.ofString "have") dE!=none:=by kernel_rfl
def hP1:Bq Bz! ly_ []=[f0_]:=by kernel_rfl
def hP2:Bq Bz_ (.fn ta) [f0_]=lz!:=by kernel_rfl
def hP3:Bq BA! (.fn wa) lz!=lz_:=by kernel_rfl
def hP4:Bq qQ! .non lz_=hF yy ta wa .non:=by kernel_rfl
def hP5:Bq qQ! o2 dE!=hF yy ta wa o2:=by kernel_rfl
end
structure Bm(t:Au)(M:Mh)(yy:Int)(a ta wa:x7!)(out:D)(S:f_)(kl:w_)(ca:lA!):Prop where
 ob:M a=some (.obj t.B3 dE!)
 tk:∃ep,M ta=some (.dct ie! ep)
 wt:M wa=some cQ_
 cl:∀h∈kl,M (ca h)=some (.lst ((eI!).map Op.v))
 nk:kl.Nodup
 mem:∀h,h∈kl↔hs S h≠[]
 cw:∀h∈kl,ca h≠wa
 ci:∀h∈kl,∀h'∈kl,ca h=ca h'->h=h'
 len:lB_<=f1!
def Ow(a ta wa:x7!)(kl:w_)(ca:lA!)(b:x7!):Prop:=b=a\/b=ta\/b=wa\/∃h∈kl,b=ca h
structure Mv(M:Mh)(O:f1_)(M':Mh)(O':f1_):Prop where
 k:∀b,M b≠none->¬O b->M' b=M b
 n:∀b,O' b->O b\/M b=none
def Mv.refl{M:Mh}{O:f1_}:Mv M O M O:=⟨λ_ _ _=>rfl,ef_⟩
def Mv.of{M M':Mh}{O:f1_}(h:BF_):Mv M O M' O:=⟨λb hb _=>h b hb,ef_⟩
def Mv.trans{M M1 M2:Mh}{O O1 O2:f1_}(h:Mv M O M1 O1)(g:Mv M1 O1 M2 O2):Mv M O M2 O2:=by
 refine⟨qQ_,λb ho=>?_⟩
 .have e:=h.k b hb ho;exact(g.k b (by rw[e];exact hb) λz=>(h.n b z).elim ho hb).trans e
 .obtain z|z:=g.n b ho
  .exact h.n b z
  .by_cases c:M b=none
   .exact .inr c
   .by_cases d:O b
    .exact .inl d
    .rw[h.k b c d]at z;exact .inr z
def gA{g:Int->D}:∀{kl:w_} {x:Int},kget (kl.map λh=>(D.int h,g h)) (.int x)=if x∈kl then some (g x)else none
 |[],x=>by simp[kget]
 |k::kl,x=>by
  rw[HV];unfold kget;by_cases e:k=x
  .subst e;simp
  .rw[HP λz=>e (D.int.inj z),gA];simp[HR e]
section
variable{t:Au}{M:Mh}{yy:Int}{a ta wa:x7!}{out:D}{S:List Op}{kl:List Int}{ca:Int->Addr}
def Bm.nob(hA:X_)(hm:(dE!).lookup m=none):Dh t.B3 m M cE!:=by show(match M a with|some (.obj C' fs)=>C'=t.B3/\fs.lookup m=none|_=>False);rw[hA.ob];exact⟨rfl,hm⟩
def Bm.nol(hA:X_){h:Int}(hh:h∉kl):hs S h=[]:=PN λz=>hh ((hA.mem h).mpr z)
def Bm.keep{M':Mh}(hA:X_)(k:BF_):Bm t M' yy a ta wa out S kl ca:=by obtain⟨ep,ht⟩:=hA.tk;exact{hA with ob:=(k a lC!).trans hA.ob,tk:=⟨ep,(k ta lC_).trans ht⟩,wt:=(k wa lD!).trans hA.wt,cl:=λh hh=>(k _ lD_).trans lE!}
def Bm.lv(hA:X_)(h:Ow a ta wa kl ca b):M b≠none:=by
 obtain⟨ep,ht⟩:=hA.tk;obtain rfl|rfl|rfl|⟨h,hh,rfl⟩:=h
 .rw[hA.ob];simp
 .rw[ht];simp
 .rw[hA.wt];simp
 .rw[hA.cl h hh];simp
def Bm.mv{M':Mh}{O O':f1_}(hA:X_)(m:Mv M O M' O')(d:∀b,Ow a ta wa kl ca b->¬O b):Bm t M' yy a ta wa out S kl ca/\∀b,Ow a ta wa kl ca b->¬O' b:=by have k:∀b,Ow a ta wa kl ca b->M' b=M b:=λb hb=>m.k b (hA.lv hb) (d b hb);obtain⟨ep,ht⟩:=hA.tk;exact⟨{hA with ob:=(k a G!).trans hA.ob,tk:=⟨ep,(k ta dD_).trans ht⟩,wt:=(k wa lE_).trans hA.wt,cl:=λh hh=>(k _ (.inr (.inr (.inr ⟨h,hh,rfl⟩)))).trans lE!},λb hb z=>(m.n b z).elim (d b hb) (hA.lv hb)⟩
def wB{h:Int}(hA:X_):Ru gz_ [P!,aS_] M qS!:=λK hK=>by
 show"!c";refine j_;by_cases c:h∈kl
 .have hl:Wo M [.fn (ca h)]=some qS!:=by
   show((Su M lF!).map λxs=>D.int m_)=_;simp only[Su,hA.cl h c,OT,IK]
  exact dD (a0k (qD f2_ ie_ qS_ ht (k:=qT!) rfl (by rw[gA,HY c];rfl)) hl) hK
 .have hl:Wo M [ll!]=some qS!:=by rw[hA.nol c];rfl
  exact dD (a0k (qD f2_ ie_ qS_ ht (k:=qT!) rfl (by rw[gA,HP c];rfl)) hl) hK
def a2f{o:Op}(hA:X_):Ru (Gb t) lG! M (.bl (decide (o.n<=eJ!))):=λK hK=>by
 refine j_;exact dD (eF (aP (a3f o)) BL! rfl) hK
def b1t{o:Op}(hA:X_):Ru (Hg t) lG! M (.bl (o.n==eJ!+1)):=λK hK=>by
 refine j_;exact dD (eF (aP (a3f o)) (eF BL! lH_ (d:=.int (eJ!+1)) rfl) (wC _ _)) hK
nonrec def lt(S:f_)(h:Int):Int:=((eI!).getLast?.map Op.tm).getD 0
def c5r{xs:c!}(h:xs.getLast?=some v):Dc xs (-1)=some v:=by
 have hl:0<m_:=by cases xs with|nil=>cases h|cons a l=>simp
 unfold Dc Ea;rw[HP a!,ac!];show xs[((-1:Int)+m_).toNat]?=_;rw[show((-1:Int)+xs.length).toNat=xs.length - 1 by omega,<-List.getLast?_eq_getElem?];exact h
def qT{h:Int}(hA:X_):Ru (Ex t) [P!,aS_] M (.int lI!):=λK hK=>by
 show"!c";refine j_;show Ah s0_ s1_ [t_,if!] M _;have hv:=jC (eF (g:=λ_=>Ba) (ρ:=[t_,if!]) (eK qU! qT_ (aP (f:=Aa 1) (d:=aS_) rfl) (wB hA)) (aP (f:=fC L_) rfl) (wC _ _));by_cases c:hs S h=[]
 .rw[c]at hv;unfold Ah;refine b0c hv (dD qU_ ?_);unfold lt at hK;rw[c]at hK;exact hK
 .have hl:0<(eI!).length:=List.length_pos_iff.mpr c;rw[show((BK!:Int)==0)=false from by rw[KI];omega]at hv;refine fN hv ?_;have hk:=(hA.mem h).mpr c;obtain⟨o,ho⟩:∃o,(hs S h).getLast?=some o:=by cases e:(eI!).getLast? with|some o=>exact⟨o,rfl⟩|none=>exact absurd (List.getLast?_eq_none_iff.mp e) c
  have i1:Bt M (.fn ta) lI_=some lF!:=(BN!).trans (by rw[gA,aP!]);have i2:Bt M lF! (.int (-1))=some o.v:=by
   simp only[Bt,hA.cl h hk];exact c5r (by rw[List.getLast?_map,ho];rfl)
  have e:lt S h=o.tm:=by unfold lt;rw[ho];rfl
  rw[e]at hK;exact dD (eF (eF (eF f2_ ie_ i1) (aP (d:=.int (-1)) rfl) i2) BP! (c0h o)) hK
def tL{ρ:Ae}{R:s_}(hR:∀a ta wa M',M a=none->Bm t M' yy a ta wa .non [] [] (λ_=>a)->kP_->(∀b,Ow a ta wa [] (λ_=>a) b->M b=none)->R cE! M'):Ga t.B3 2 (Gd t) (Ab (wl (fC ly_)) Af) ρ M R:=by
 unfold Ga Ab Af;rw[dI (f:=fC ly_) (d:=if_) rfl];refine⟨rfl,λa ha=>j_⟩;refine wR ?_;rw[dI (f:=Aa 1) (d:=if_) rfl];refine kI (fs:=[]) rfl mup_same b_ hP1 ?_;generalize e1:Bg (Bg M a (.obj t.B3 [])) a BQ_=M1;have a1:M1 a=some BQ_:=by rw[<-e1];exact mup_same
 have o1:∀b,b≠a->M1 b=M b:=λb hb=>by rw[<-e1,bs_,bs_]
 refine wR ?_;intro ta TU;have vo:a≠ta:=aV (by rw[a1];simp) TU;refine kI (fs:=[f0_]) rfl ((mup_ne vo).trans a1) (by show 1<100;decide) hP2 ?_;generalize e2:Bg (Bg M1 ta B!) a rD_=M2;have a2:M2 a=some rD_:=by rw[<-e2];exact mup_same
 have X8:M2 ta=some B!:=by rw[<-e2,mup_ne lK!];exact mup_same
 have o2:∀b,b≠a->b≠ta->M2 b=M b:=λb hb hc=>by rw[<-e2,bs_,mup_ne hc];exact o1 b hb
 refine wR ?_;refine⟨R!,λwa ye=>?_⟩;have yf:a≠wa:=aV (by rw[a2];simp) ye;have X9:ta≠wa:=aV (by rw[X8];simp) ye;refine kI (fs:=lz!) rfl ((mup_ne yf).trans a2) qW! hP3 ?_;generalize e3:Bg (Bg M2 wa cQ_) a qX!=M3;have a3:M3 a=some qX!:=by rw[<-e3];exact mup_same
 have o3:∀b,b≠a->b≠wa->M3 b=M2 b:=λb hb hc=>by rw[<-e3,bs_,mup_ne hc]
 have w3:M3 wa=some cQ_:=by rw[<-e3,vK!];exact mup_same
 refine vR ?_;rw[lN!];refine kI (fs:=lz_) rfl a3 qW! hP4 ?_;refine⟨rfl,hR a ta wa _ ha ⟨mup_same,qy_,?_,lO!,NS,λh=>by simp[hs],lO!,lO!,IM _⟩ ir! λb hb=>?_⟩
 .rw[mup_ne lK!,o3 ta lK! X9];exact X8
 .rw[vK!];exact w3
 .have ba:b≠a:=aV hb ha;have bt:b≠ta:=aV (N:=M1) (by rw[o1 b ba];exact hb) TU;have bw:b≠wa:=aV (N:=M2) (by rw[o2 b ba bt];exact hb) ye;rw[mup_ne ba,o3 b ba bw,o2 b ba bt]
 .obtain rfl|rfl|rfl|⟨_,h,_⟩:=hb
  .exact ha
  .rw[<-o1 _ lK!];exact TU
  .rw[<-o2 _ (HR yf) (HR X9)];exact ye
  .cases h
end
section
variable{t:Au}{M:Mh}{ρ:Ae}{yy:Int}{a ta wa:x7!}{out:D}{S:List Op}{kl:List Int}{ca:Int->Addr}
def cM{ep:Nat}(hp:bW!):Ee M E!=some k4!:=by simp[Ee,hp]
def uG(hp:M p=some T!):Os M E!=some (p,xs):=by simp[Os,hp]
def FP(fa:e!)(ρ:Ae)(d:D)(M:Mh)(R:s_):Prop:=Dz (Os M d) λ_=>wl fa ρ M λv M2=>Dz (Os M2 d) λq=>p5_<big/\R .non zQ_
def c4c{fo:WE}{fa:e!}{q:WS}{R:j!}(h:fo ρ M λd M1=>FP fa ρ d M1 λ_ M2=>q ρ M2 R):Ah (Bo (Vq fo hL_)) q ρ M R:=h
def a9o{xs:c!}{f:e!}{R:s_}(hp:M p=some T!)(hf:f ρ=some v)(hl:m_<big)(k:R .non (Bg M p (.lst (xs++[v])))):FP f ρ E! M R:=by unfold FP;rw[uG hp];refine jE ?_;rw[dI hf,uG hp];exact jE ⟨hl,k⟩
def c3z{kvs:i!}{ep:Nat}{fo:WE}{fa:e!}{K:s_}(ho:Pu fo ρ M E!)(Y:qw!)(hp:bW!)(hk:cl!)(hl:dz!)
  (ar:∀q v,M q=none->kget kvs y=some v->K v f4_)(new:∀q,M q=none->kget kvs y=none->K bS! (Bg f4_ p (.dct (As kvs y bS!) bH!))):Jj fo hL_ (Qk Af) ρ M K:=by
 unfold Jj;refine ho _ ?_;rw[cM hp];refine jE ?_;rw[dI Y];refine⟨R!,kQ_⟩;have pq:p≠q:=aV ih! hq;show Dz (Ee f4_ E!) _;rw[cM ((mup_ne pq).trans hp)];refine jE ?_;rw[hk];refine jE ⟨hl,?_⟩;cases e:kget kvs y with
 |some v=>exact ar q v hq e
 |none=>exact new q hq e
def a2c{o:Op}{R:s_}(hA:X_)(hS:cW!)(hR:∀M' bn bo,Bm t M' yy a ta wa .non gm_ bn bo->Mv M dF_ M' dG!->R .non M'):Ki t lG! M R:=by
 obtain⟨ep,ht⟩:=hA.tk;refine j_;refine c4c ?_;have i0:f2 Ak v_ C! [t_,U_]=some cP_:=sS o;have X':lB_<64:=LD hA.len hS;have hlS:(eI_).length<64:=LD (tW S o.h) hS;have at_:a≠ta:=λz=>by have:=hA.ob;rw[z,ht]at this;cases this
 have aw:a≠wa:=λz=>by have:=hA.ob;rw[z,hA.wt]at this;cases this
 have tw:ta≠wa:=λz=>by rw[z,hA.wt]at ht;cases ht
 have cA:∀h∈kl,ca h≠a:=λh hh z=>by have:=hA.cl h hh;rw[z,hA.ob]at this;cases this
 have cT:∀h∈kl,ca h≠ta:=λh hh z=>by have:=hA.cl h hh;rw[z,ht]at this;cases this
 refine c3z (k:=lQ_) f2_ i0 ht rfl fS! (λq v hq e=>?_) (λq hq e=>?_)
 .have aq:a≠q:=aV lC! hq;have tq:ta≠q:=aV lC_ hq;have wq:wa≠q:=aV lD! hq;have cq:∀h∈kl,ca h≠q:=λh hh=>aV lD_ hq;rw[gA]at e;have c:o.h∈kl:=by
   by_cases c:o.h∈kl
   .exact c
   .rw[HP c]at e;cases e
  rw[HY c]at e;cases e;refine a9o (p:=ca o.h) (v:=o.v) ((mup_ne (cq _ c)).trans (hA.cl _ c)) rfl fS! ?_;generalize e2:Bg f4_ (ca o.h) q2!=M2;have m2:∀b,b≠q->b≠ca o.h->M2 b=M b:=λb Y L=>by rw[<-e2,cF!,cd_]
  have m2c:M2 (ca o.h)=some q2!:=by rw[<-e2];exact mup_same
  refine vR ?_;rw[lN!];refine kI (fs:=q3!) rfl ((m2 a aq (HR (cA _ c))).trans hA.ob) lR! hP5 ?_;refine hR _ kl ca ⟨mup_same,⟨ep,?_⟩,?_,lS!,hA.nk,λh=>?_,hA.cw,hA.ci,?_⟩ ⟨qQ_,ef_⟩
  .rw[q4!,m2 ta tq (HR (cT _ c))];exact ht
  .rw[q4_,m2 wa wq (HR (hA.cw _ c))];exact hA.wt
  .rw[mup_ne (cA h hh),cE,fD];by_cases z:o.h=h
   .rw[HY z,<-z,m2c,IU];rfl
   .rw[HP z,IR,m2 _ (cq h hh) λy=>z (hA.ci _ hh _ c y).symm];exact hA.cl h hh
  .rw[cE,fD];by_cases z:o.h=h
   .rw[HY z];subst z;simp[c]
   .rw[HP z,IR];exact hA.mem h
  .rw[IG];have:=hA.len;omega
  .rw[q6!,m2 b lT! λz=>ho (.inr (.inr (.inr ⟨_,c,z⟩)))]
 .have aq:a≠q:=aV lC! hq;have tq:ta≠q:=aV lC_ hq;have wq:wa≠q:=aV lD! hq;have cq:∀h∈kl,ca h≠q:=λh hh=>aV lD_ hq;rw[gA]at e;have c:o.h∉kl:=by
   by_cases c:o.h∈kl
   .rw[HY c]at e;cases e
   .exact c
  have p8:As ie! cP_ bS!=ie!++q7!:=iX (λz=>by
   rw[JL]at z;obtain⟨x,J,ex⟩:=IH.mp z;exact c (by rw[<-D.int.inj ex];exact J))
  rw[p8];refine a9o (p:=q) (v:=o.v) (xs:=[]) ((mup_ne (HR tq)).trans mup_same) rfl b_ ?_;generalize e2:Bg (Bg f4_ ta q8!) q (.lst ([]++[o.v]))=M2;have m2:∀b,b≠q->b≠ta->M2 b=M b:=λb Y L=>by rw[<-e2,cd_,cF!,cd_]
  have m2q:M2 q=some (.lst [o.v]):=by rw[<-e2];exact mup_same
  have m2t:M2 ta=some q8!:=by rw[<-e2,mup_ne tq];exact mup_same
  refine vR ?_;rw[lN!];refine kI (fs:=q3!) rfl ((m2 a aq at_).trans hA.ob) lR! hP5 ?_;have nc:∀h∈kl,h≠o.h:=λh hh z=>c (z▸hh);have hs0:hs S o.h=[]:=hA.nol c;refine hR _ (kl++[o.h]) (λh=>if h=o.h then q else ca h) ⟨mup_same,⟨ep+1,?_⟩,?_,lS!,?_,λh=>?_,lS!,λh hh h' pp ee=>?_,?_⟩ ⟨qQ_,bz!⟩
  .rw[q4!,m2t,IU];congr 3
   .apply KJ;intro h hh;rw[HP (nc h hh)]
   .show _=[(D.int o.h,D.fn (if o.h=o.h then q else ca o.h))];rw[k_]
  .rw[q4_,m2 wa wq (HR tw)];exact hA.wt
  .show Bg M2 a _ lU!=_;by_cases z:h=o.h
   .rw[HY z,mup_ne (HR aq),m2q,z,cE,fD,k_,hs0];rfl
   .have pp:h∈kl:=(lV!).resolve_right λy=>z lV_;rw[HP z,mup_ne (cA h pp),m2 _ (cq h pp) (cT h pp),cE,fD,HP (HR z),IR];exact hA.cl h pp
  .rw[IY];exact⟨hA.nk,A8!,λx J y hy=>by rw[HZ.mp hy];exact nc x J⟩
  .rw[cE,fD,HX,HZ];by_cases z:o.h=h
   .rw[HY z];simp[z]
   .rw[HP z,IR,<-hA.mem h];simp[HR z]
  .show lU!≠wa;by_cases z:h=o.h
   .rw[HY z];exact HR wq
   .rw[HP z];exact hA.cw h ((lV!).resolve_right λy=>z lV_)
  .have g:∀x,x∈kl++[o.h]->x≠o.h->x∈kl:=λx J z=>(HX.mp J).resolve_right λy=>z lV_;have r9:lU!=(if h'=o.h then q else ca h'):=ee;by_cases z:h=o.h
   .by_cases z':h'=o.h
    .rw[z,z']
    .rw[HY z,HP z']at r9;exact absurd r9.symm (cq h' (g h' pp z'))
   .by_cases z':h'=o.h
    .rw[HP z,HY z']at r9;exact absurd r9 (cq h (g h hh z))
    .rw[HP z,HP z']at r9;exact hA.ci h (g h hh z) h' (g h' pp z') r9
  .rw[IG,IG];have:=hA.len;simp;omega
  .rw[q6!,m2 b lT! λz=>ho lX_]
  .obtain z|z|z|⟨h,hh,z⟩:=hb
   .exact .inl ca_
   .exact .inl lX_
   .exact .inl (.inr lX_)
   .have z':b=if h=o.h then q else ca h:=z
    by_cases e:h=o.h
    .rw[HY e]at z';rw[z'];exact .inr hq
    .rw[HP e]at z';exact .inl (.inr (.inr (.inr ⟨h,(lV!).resolve_right λx=>e (HZ.mp x),z'⟩)))
def b0x{f:WE}{nl:Nat}{ix:l!}{bnd:ai_}{ft:WT}{fe:WE}(h:Pu f ρ M E!)(hp:M p=some cQ_):Pu (Bf nl ix (Bw f) bnd ft fe) ρ M cQ_:=λK hK=>by
 unfold Bf Bw;refine h _ ?_;show(match M p with|some (.lst xs)=>_|_=>False);rw[hp];exact⟨JS _,hp,hK⟩
def b5s{ft:WT}{q q2:WS}{R:j!}(h:qN_)(k:du!):Ah (Ic ft q) q2 ρ M R:=by unfold Ah Ic;refine fn!;unfold Dd;refine h _ ?_;rw[W_];exact k
def sA(hA:X_):Ru (Fe t) [P!] M L_:=λK hK=>by
 refine j_;refine fS qU_ ?_;refine fS (b0x (eO bt_ hA.ob hF3) hA.wt) ?_;refine b5s (a0l rfl) ?_;exact dD qU_ hK
def b0r{o:Op}{R:s_}(hA:X_)(hS:cW!)(hn:o.n=eJ!+1)(hR:∀M' bn bo,Bm t M' yy a ta wa .non gm_ bn bo->Mv M dF_ M' dG!->R aN_ M'):Kf t lG! M R:=by
 refine j_;show Ah tj! _ lY! M _;have J:Uz ti_ lY! M true:=by
  have e:(o.n==eJ!+1)=true:=by rw[hn];exact LF _
  have:=jC (cL (ρ:=lY!) qU! (aP (f:=Aa 1) rfl) (b1t (o:=o) hA));rw[e]at this;exact this
 unfold Ah;refine b0c J ?_;refine hW (vH rfl rfl (a2c hA hS λM' bn bo cz mv=>?_));exact dD (eF lH_ (iU (aP (f:=Aa 0) (d:=P!) rfl) (sA cz)) (d:=.int 1) rfl) (hR M' bn bo cz mv)
def Hist.next{os:f_}{o:Op}(h:Hist (S++o::os)):o.n=eJ!+1:=by
 have:=(h.ch o.h).num (eI_).length o;rw[cE]at this;have e:hs hR_ o.h=o::hs os o.h:=by unfold hs;rw[JY d!]
 rw[e]at this;exact this (by rw[JM y!];simp)
def EC(t:Au):WS:=To 2 tm!
def b2w:∀(os:f_) (x1:D) (k:Int) (y:ao!) (M:Mh) (out:D) (S:f_) (kl:w_) (ca:lA!) (R:j!),Bm t M yy a ta wa out S kl ca->Hist (S++os)->(S++os).length<64->
  (∀M' bn bo yg y',Bm t M' yy a ta wa yg (S++os) bn bo->((out=.non->yg=.non)/\(os≠[]->yg=.non))->Mv M dF_ M' dG!->R (.nx [t_,R_,some (.int (k+(ap_:Nat))),y']) M')->
  Ig Q_ ae_ (EC t) a1! [t_,R_,some iq_,y] M R
 |[],x1,k,y,M,out,S,kl,ca,R,hA,_,_,hR=>⟨trivial,by
  have:=hR M kl ca out y (by rw[IR];exact hA) ⟨id,λz=>absurd rfl z⟩ .refl;simpa using this⟩
 |o::os,x1,k,y,M,out,S,kl,ca,R,hA,hH,hl,hR=>by
  refine aJ!;show Ai 2 (Kf t) dZ! [t_,R_,some iq_,U_] M _;have qj:f1!<64:=by rw[IG]at hl;omega
  refine vH rfl rfl (b0r hA qj hH.next λM' bn bo cz mv=>?_);have e:S++o::os=S++[o]++os:=by simp
  refine b2w os x1 V! ez! M' .non gm_ bn bo R cz (by rw[<-e];exact hH) rc! λM2 yh yi out2 y2 L hz se=>?_;have h3:=hR M2 yh yi out2 y2 (by rw[e];exact L) ⟨rd!,rd!⟩ (mv.trans se);have ek:k+((hR_).length:Nat)=k+1+(ap_:Nat):=by rw[IE];omega
  rw[ek]at h3;exact h3
def b0e{kvs:i!}{ep:Nat}{fo fa fb:e!}{K:s_}(h0:lm_)(Y:qw!)(L:fb ρ=some z)(hp:bW!)(hk:cl!)(hl:dz!)(hn:y∉kvs.map c_)(hK:K z (Bg M p (.dct (kvs++[(y,z)]) bH!))):Jj dq_ hL_ hL! ρ M K:=by unfold Jj;rw[dI h0,cM hp];refine jE ?_;rw[dI Y,dI L,cM hp,hk];refine jE (jE ⟨hl,?_⟩);rw[yE hn,iX hn];exact hK
def c0r(o:Op):Ak o.nm L_=some cP_:=by simp[Op.nm,Ak,Dc,Ea]
def GV(t:Au):WS:=Ah gv_
 (Ah s5!
 s7_)
structure Nx(yy:Int)(S:f_)(o:Op):Prop where
 f:Zd o
 y:o.h≠yy
 n:eJ!<o.n
 t:lt S o.h<o.tm
def b4e{M0:Mh}(hA:rf!)(h0:M0 p=none):∀(os dn:f_) (x1:D) (y3 y4 y5:ao!) (ep:Nat) (M:Mh) (R:j!),rf_->(∀o∈os,Nx yy S o)->((dn++os).map Op.nm).Nodup->(dn++os).length<64->M p=some (.dct rg_ ep)->
  (∀M' bd k8 k9 oy,M' p=some (.dct ((dn++os).map λo=>l0_) bd)->ri!->R (.nx [t_,R_,ap!,k8,k9,oy]) M')->
  Ig Q_ ae_ (GV t) a1! [t_,R_,ap!,y3,y4,y5] M R
 |[],dn,x1,y3,y4,y5,ep,M,R,fr,_,_,_,hp,hR=>⟨trivial,hR M ep y3 y4 y5 (by rw[IR];exact hp) fr⟩
 |o::os,dn,x1,y3,y4,y5,ep,M,R,fr,hf,nd,hl,hp,hR=>by
  refine aJ!;have ho:=hf o HQ;have cz:=hA.keep fr;have e:dn++o::os=dn++[o]++os:=by simp
  have es:Dp M! Aq by! [t_,R_,ap!,U_,y4,y5]=some o.nm:=a0e o;refine fS (aP es) ?_;have Y:Uz s2! l2! M false:=by
   have:=jC (cL (ρ:=l2!) qU! (aP (f:=Aa 3) rfl) (a2f (o:=o) cz));rw[IF (by have:=ho.n;omega)]at this;exact this
  have L:Uz s4! l2! M false:=by
   refine jC (eF (aP (d:=fG_) (c0r o)) (eO bt_ cz.ob hF1) ?_);have:(o.h==yy)=false:=KI.mpr ho.y;rw[wC,this]
  unfold Ah;refine lY Y (lY L ?_);unfold Am;have xz:o.nm∉(rg_).map c_:=λz=>by
   rw[JL]at z;rw[IU,IY]at nd;exact nd.2.2 o.nm z o.nm d! rfl
  refine b0e (p:=p) (y:=o.nm) (z:=o.v) (k:=rj_) rfl rfl rfl hp rfl (by rw[IK];rw[IG]at hl;unfold big;omega) xz ?_;have h3:fT s6! rk_=some false:=by
   obtain⟨n1,n2⟩:=c5b ho.f.dg;have:f2 Eg I! M! rk_=some Q!:=iJ n1 a!;show"!J"
  refine lY (a0l h3) ?_;refine b4e hA h0 os (dn++[o]) x1 ez! (some o.nm) ez! bH! _ R rl_ (λx J=>hf x aU_) (by rw[<-e];exact nd) rc! (by rw[mup_same,IU];rfl) λM' bd z3 z4 z5 g1 g2=>?_;exact hR M' bd z3 z4 z5 (by rw[e];exact g1) g2
def b1k{ms:f_}{R:s_}(hA:X_)(hN:rm!)(nn:(f9_).Nodup)(hl:eE_<64)
  (hR:∀M' p ep,M p=none->M' p=some (.dct ga! ep)->kP_->R E! M'):Eo t ip! M R:=by
 refine j_;intro p hp;have fr:∀b,M b≠none->Bg M p B! b=M b:=λb hb=>mup_ne (aV hb hp);have ik:=hA.keep fr;unfold Ah Df Bw;have ux:Mi eB! (.fn wa) l2_=some l2_:=by
  simp only[Mi,ik.wt];rw[HY (by rw[IK];unfold big;simp;omega)];rfl
 refine eF (eO bt_ ik.ob hF3) (aP (d:=.lst dJ_) rfl) ux _ ?_;exact b4e (p:=p) hA hp ms [] _ none none none 0 _ _ fr hN (by simpa using nn) (by simpa using hl) mup_same λM' bd y3 y4 y5 g1 g2=>dD l3_ (hR M' p bd hp g1 g2)
def HG(t:Au):WS:=Ah ta_
 (Ah tc!
 tc_)
def d2i{kvs:i!}{ep:Nat}{fo fi f:e!}{R:j!}(h0:lm_)(Y:fi ρ=some y)(L:f ρ=some v)(hp:bW!)(hk:cl!)(hl:dz!)(k':R aK_ hY!):Cb dq_ (wl fi) (wl f) ρ M R:=by unfold Cb;rw[dI L,dI h0,dI Y,hJ hp hk hl];exact k'
def b5b{M0:Mh}{e0:Nat}(hA:rf!)(ff:M0 p=some (.dct kvs e0))(h0:M0 q=none):∀(qs:f_) (ml:i!) (ep:Nat) (y3 y4:ao!) (M:Mh) (R:j!),rf_->(∀o∈qs,kget kvs o.nm=some o.v/\Nx yy S o)->M q=some (.dct ml ep)->
  qs.Pairwise (λx y=>x.h=y.h->x.tm<y.tm)->(∀o∈qs,∀v,kget ml cP_=some v->∃m,v=.int m/\m<o.tm)->ml.length+qs.length<1000->
  (∀M' k8 k9,ri!->R (.nx [t_,ap!,aV_,k8,k9]) M')->
  Ig Q_ ae_ (HG t) (qs.map Op.nm) [t_,ap!,aV_,y3,y4] M R
 |[],ml,ep,y3,y4,M,R,fr,_,_,_,_,_,hR=>⟨trivial,hR M y3 y4 fr⟩
 |o::qs,ml,ep,y3,y4,M,R,fr,hk,hq,pw,ht,hl,hR=>by
  refine aJ!;have cz:=hA.keep fr;have hp:=(fr p (by rw[ff];simp)).trans ff;obtain⟨hko,ho⟩:=hk o HQ;rw[KG]at pw;simp only[IE]at hl;have i1:Bt M E! o.nm=some o.v:=(gS (k:=rj_) hp rfl).trans hko;have i2:Bt M o.v bx_=some fO!:=c0h o;refine fS (eF (eF l3_ (aP (d:=o.nm) rfl) i1) BP! i2) ?_;have ix:f2 Ak M! C! rp!=some cP_:=c0r o;obtain⟨m,em,hm⟩:∃m:Int,(kget ml (.int o.h)).getD (.int (lt S o.h))=.int m/\m<o.tm:=by
   cases e:kget ml cP_ with
   |none=>exact⟨_,rfl,ho.t⟩
   |some v=>
    obtain⟨m,e1,e2⟩:=ht o HQ v e;exact⟨m,e1,e2⟩
  have hc:Uz tb_ rp! M false:=by
   refine jC (eF (aP (d:=hH!) rfl) (qD (aP (d:=.fn q) rfl) (aP ix) (cL H_ (aP ix) (qT cz)) hq (k:=lQ_) rfl em) ?_);show some (D.bl (decide (o.tm<=m)))=_;rw[IF a!]
  refine fN hc ?_;refine d2i (p:=q) (y:=fG_) (v:=hH!) (k:=lQ_) rfl ix rfl hq rfl hx_ ?_;refine b5b hA ff h0 qs _ _ (some o.nm) (some fO!) _ R rl_ rq! mup_same pw.2 (λx J v hv=>?_) (by have:=kput_len ml cP_ fO!;omega) hR;by_cases c:o.h=x.h
  .rw[<-c,cV]at hv;cases hv;exact⟨_,rfl,pw.1 x J c⟩
  .rw[cW λz=>c (D.int.inj z)]at hv;exact ht x aU_ v hv
def b4o{f:Op->D}{g:Op->D}:∀{l:f_},(eH_).Nodup->∀{o:Op},o∈l->kget (l.map λo=>(f o,g o)) (f o)=some (g o)
 |[],_,o,h=>by cases h
 |x::l,nd,o,h=>by
  rw[HV,IJ]at nd;rw[HV];unfold kget;obtain rfl|h:=HN.mp h
  .rw[k_]
  .rw[HP λz=>nd.1 (by rw[z];exact IB h),b4o nd.2 h]
def Pf(o:Op):Int×Int:=(o.h,o.n)
def Hist.nkeys{ms:f_}(h:Hist ms):(ms.map Pf).Nodup:=by have:=h.names;rw[OX,PY]at this ⊢;refine this.imp λ{x y} hxy e=>hxy ?_;simp only[Pf,KZ]at e;show D.tup [.int x.h,.int x.n]=D.tup [.int y.h,.int y.n];rw[e.1,e.2]
def Hist.rise{ms:f_}(h:Hist ms){x y:Op}(J:x∈ms)(hy:y∈ms)(e:x.h=y.h)(hn:x.n<y.n):x.tm<y.tm:=by have me:x∈hs ms y.h:=iE.mpr ⟨J,e⟩;have hy':y∈hs ms y.h:=iE.mpr ⟨hy,rfl⟩;obtain⟨i,hi,ei⟩:=OO.mp me;obtain⟨j,hj,ej⟩:=OO.mp hy';have Y:=(l6_).num i x (by rw[II hi,ei]);have L:=(l6_).num j y (by rw[II hj,ej]);have:=PL.mp (l6_).tim i j hi hj a!;rw[ei,ej]at this;exact this
def c1f{x y:Op}(h:Lj (Pf x) (Pf y)=true)(e:x.h=y.h):x.n<y.n:=by simp only[Lj,CI,Pf,e,JT,JA]at h;exact h
def yX{e0:Nat}{ms:f_}{R:s_}(hA:X_)(hH:it!)(hN:rm!)(hl:eE_<64)(hp:M p=some (.dct ga! e0))
  (hR:rs_):Jq t [P!,.fn p] M R:=by
 refine j_;intro q hq;have qp:q≠p:=HR (aV ih! hq);have hp1:Bg M q B! p=some (.dct ga! e0):=(mup_ne (HR qp)).trans hp;have nn:(f9_).Nodup:=by have:=hH.names;rw[IU,IY]at this;exact j4_
 have nk:(ms.map Pf).Nodup:=by have:=hH.nkeys;rw[IU,IY]at this;exact j4_
 unfold Df Bw;have vp:(iu!).Perm ms:=bP ms;have hsort:Sr (Bg M q B!) [.fn p]=some (.lst ((iu!).map Op.nm)):=by
  show((Ee (Bg M q B!) E!).bind λq=>(Xd h3_).map D.lst)=_;rw[cM hp1];show(Xd ((ga!).map c_)).map D.lst=_;have e1:(ga!).map c_=ms.map Op.nm:=by rw[JL];rfl
  have e2:(f9_).map Nv=ms.map Pf:=by rw[JL];rfl
  rw[e1];unfold Xd;rw[HY ⟨LG.mpr λd hd=>by obtain⟨o,_,rfl⟩:=IH.mp hd;rfl,by rw[e2];exact nk,vD!⟩];show some (D.lst (Jo Nv f9_))=_;rw[pX (f:=Op.nm) (k:=Pf) (k':=Nv) λo=>rfl]
 refine a0k l3_ hsort _ ?_;refine b5b hA hp hq iu! [] 0 none none _ _ (λb hb=>mup_ne lT!) (λo ho=>⟨b4o nn ru!,hN o ru!⟩) mup_same ?_ (λo _ v hv=>by cases hv) (by rw[vp.length_eq];simp;omega) λM' y3 y4 h=>hR M' h;have b6:Ot Pf iu!:=gV nk;have:=List.Pairwise.and_mem.mp b6;exact this.imp λ{x y} h e=>hH.rise (IA _ (vp.mem_iff.mp h.1)) (IA _ (vp.mem_iff.mp h.2.1)) e (c1f (x:=x) (y:=y) h.2.2 e)
def a9m:∀{ys:c!},(∀y∈ys,y=D.bl true)->Nn ys=some rv_
 |[],_=>rfl
 |y::ys,h=>by
  rw[h y HQ];show(Nn ys).map (true::·)=_;rw[a9m λx J=>h x aU_];rfl
def b2o{f:e!}(h:cf_):Ac f Ag ρ=some [d]:=by unfold Ac;rw[h];rfl
def c2g{g:ai!}{fs:as_}(h:hA_):f1 g fs ρ=g ds:=by unfold f1;rw[h];rfl
def c6z{ms:f_}(nd:t.nd)(hH:∀o∈ms,Zd o)(hl:eE_<64):Ct tf! iv!=some false:=by
 obtain⟨ys,e,_,hr⟩:=nJ (ρ:=cK_) (bnd:=Bd 0) (ft:=pf_) (fe:=f1 (Cc t) aN!) (λy=>y=D.bl true) dJ_ (by
  intro d hd;obtain⟨o,ho,rfl⟩:=IH.mp hd;exact⟨[U_],true,rfl,rfl,λ_=>⟨gj_,d2q nd (hH o ho),rfl⟩⟩)
 have hc:Hx 1 [] (Ep v_) E_ a3_ te_ iv!=some ba_:=by
  show(if(dJ_).length<=big then Option.map D.lst (Fp _ _ _ cK_ dJ_)else none)=_;rw[HY fS!,e];rfl
 have ha:f1 Rr (Ac m6! Ag) iv!=some z_:=by
  have Y:Ac m6! Ag iv!=some [.lst ys]:=by
   exact b2o hc
  rw[c2g Y];show(Nn ys).map (λbs=>D.bl oR_)=_;rw[a9m hr];show some (D.bl ((rv_).all id))=_;rw[LG.mpr λx J=>by obtain⟨_,_,rfl⟩:=IH.mp J;rfl]
 unfold Ct fT;rw[ha];rfl
def Hist.nx{ms:f_}(h:it!)(hy:l9!):∀o∈ms,Nx yy S o:=λo ho=>by
 have hc:=h.ch o.h;rw[cE]at hc;have hm:o∈hs ms o.h:=iE.mpr ma!;refine⟨h.op o ma_,hy o ho,?_,?_⟩
 .obtain⟨i,hi,e⟩:=OO.mp hm;have:=hc.num ((eI_).length+i) o (by rw[JM a!,Nat.add_sub_cancel_left,II hi,e]);omega
 .unfold lt;cases e:(eI_).getLast? with
  |none=>show(0:Int)<o.tm;have:=(h.op o ma_).t1;omega
  |some x=>exact(NO.mp hc.tim).2.2 x rA_ o hm
def uF{ms:f_}{R:s_}(nd:t.nd)(hA:X_)(hH:it!)(hy:l9!)(hl:eE_<64)(hR:rs_):Fs t ip! M R:=by
 refine j_;refine fN (a0l (c6z nd (λo ho=>hH.op o ma_) hl)) ?_;refine hW ?_;have hn:∀K:D->Mh->Prop,Eo t ip! M K->Ai 2 (Eo t) c8_ [t_,iu_] M K:=λK h=>vH rfl rfl h;have hN:=hH.nx hy;have nn:(f9_).Nodup:=by have:=hH.names;rw[IU,IY]at this;exact j4_
 refine hn _ (b1k hA hN nn hl λM1 p ep h0 hp fr=>j_);exact yX (hA.keep fr) hH hN hl hp λM' pj=>hR M' λb hb=>(pj b (by rw[fr b hb];exact hb)).trans in_
def pW{ms:f_}{R:s_}(nd:t.nd)(hA:X_)(hH:it!)(hy:l9!)(hm:ms≠[])(hl:(S++ms).length<64)(hR:∀M' bn bo,Bm t M' yy a ta wa .non (S++ms) bn bo->Mv M dF_ M' dG!->R (.int mb!) M'):He t ip! M R:=by
 refine j_;show Ah tl_ (Ah (Am 2 a5_) (Ah (Df gD_ Q_ (EC t)) dU_)) [t_,iu_,none,none] M _;have qj:eE_<64:=by rw[IG]at hl;omega
 unfold Ah;refine hW (vH rfl rfl (uF nd hA hH hy qj λM1 fr=>?_));refine aP (f:=fC L_) (d:=ch!) rfl _ ?_;show Df gD_ Q_ (EC t) rE! M1 _;have hi:Ep v_ rE!=some dJ_:=wA rfl;unfold Df Ia;rw[hi];refine b2w ms _ 0 none M1 out S kl ca _ (hA.keep fr) hH hl λM' bn bo yg y' cz hz mv=>?_;rw[hz.2 hm]at cz;refine dD (aP (d:=.int mb!) (by show some (D.int (0+mb!))=_;rw[Int.zero_add])) (hR M' bn bo cz rF!)
end
def c5a{α:Type}(p q:α->Bool)(l:P_)(h:∀x∈l,¬(p x=true/\q x=true)):(l.filter p++l.filter q).Perm rG!:=by
 have Y:=List.filter_append_perm p rG!;rw[OD,OD]at Y;have e1:(l.filter λx=>p x&&(p x||q x))=l.filter p:=KU λx _=>by cases p x<;>simp
 have e2:(l.filter λx=>(!p x)&&(p x||q x))=l.filter q:=KU λx J=>by
  have:=h x J;cases c:p x<;>cases d:q x<;>simp_all
 rw[e1,e2]at Y;exact Y
def a1j{S:f_}:∀{kl:w_},kl.Nodup->(md!).Perm (S.filter λo=>decide (o.h∈kl))
 |[],_=>by simp
 |k::kl,nd=>by
  rw[IJ]at nd;rw[List.flatMap_cons];refine((a1j nd.2).append_left _).trans ?_;refine(c5a (λo:Op=>decide (o.h=k)) (λo=>decide (o.h∈kl)) S λx _ z=>?_).trans (List.Perm.of_eq (KU λx _=>by simp[HN]));simp only[JA]at z;exact nd.1 (z.1▸z.2)
section
variable{t:Au}{M:Mh}{ρ:Ae}{yy:Int}{a ta wa:x7!}{out:D}{S:List Op}{kl:List Int}{ca:Int->Addr}
def Bm.perm(hA:X_):(md!).Perm S:=by refine(a1j hA.nk).trans (List.Perm.of_eq (JX.mpr λo ho=>?_));rw[JA,hA.mem];intro z;have:o∈hs S o.h:=iE.mpr ma!;rw[z]at this;cases this
def FB(t:Au):WS:=Xa 1 m0_
def b5h{ck:bf_}(hA:X_)(cr:ck M)(hS:cW!):∀(ks:w_) (acc:f_) (y:ao!) (R:j!),(∀h∈ks,h∈kl)->cR_+64*kH_<100000->
  (∀y',R (.nx [t_,some (.lst ((acc++ks.flatMap (hs S)).map Op.v)),y']) M)->
  Ig bM! ck (FB t) (ks.map D.int) [t_,hU!,y] M R
 |[],acc,y,R,_,_,hR=>⟨cr,by have:=hR y;simpa using this⟩
 |h::ks,acc,y,R,hk,hl,hR=>by
  refine kJ!;show"!c";have hh:=hk h HQ;show FB t [t_,hU!,if!] M _;show Xa 1 m0_ [t_,hU!,if!] M _;unfold Xa;have i1:Bt M (.fn ta) lI_=some lF!:=(BN!).trans (by rw[gA,HY hh]);refine eF f2_ ie_ i1 _ ?_;rw[uG lE!];refine jE ?_;have hlS:(eI!).length<64:=LD (tW S h) hS;simp only[IE]at hl;refine rJ_;rw[<-IU];refine b5h hA cr hS ks (acc++hs S h) (some lI_) R rq! wP_ λy'=>?_;have:=hR y';rw[List.flatMap_cons,<-KB]at this;exact this
def rZ(hA:X_)(hH:cr_)(hS:cW!):Ru (Ey t) [P!] M (.lst mf_):=λK hK=>by
 obtain⟨ep,ht⟩:=hA.tk;refine j_;show Ah (Df (Iw c8!) bM! (FB t)) sW_ [t_,hU_,none] M _;unfold Ah Df Iw;refine eO bt_ hA.ob hF2 _ ?_;rw[cM ht];refine jE ?_;have X':lB_<64:=LD hA.len hS;have ek:(ie!).map c_=kl.map D.int:=by rw[JL];rfl
 rw[ek];refine b5h hA ht hS kl [] none _ (λh hh=>hh) am! λy'=>?_;have hp:=hA.perm;have nd:((md!).map Op.key).Nodup:=(k1_).nodup_iff.mpr hH.keys;have he:f1 Dm dP! [t_,some (.lst rK_),y']=some (.lst mf_):=by
  show Dm [.lst rK_]=_;rw[KP,nF nd rM!,uJ hp nd]
 exact dD (aP he) hK
structure OS(t:Au)(M:Mh)(a o:x7!)(rl:bo!)(W:OW):Prop where
 hob:∃yy ta wa,M a=some ix!
 out:Cf t M o rl W 1500
def a3e{R:s_}(hA:Bm t M yy a ta wa .non S kl ca)(hH:cr_)(hS:cW!)(hr:Run W0 (Jf jW! eg_) W')
  (hR:∀M' o ac,OS t M' a o ac W'->Bm t M' yy a ta wa N_ S kl ca->(∀b,M b≠none->b≠a->M' b=M b)->(∀b,M b≠none->ac b=.oth)->R N_ M'):Cq t [P!] M R:=by
 refine j_;show Ah sY_ (Az m1!) [t_] M _;unfold Ah;refine b0c (jC (eF (eO bt_ hA.ob hF4) mi! rfl)) ?_;refine vR ?_;have hp:(eg_).Perm S:=bP S;have hc:∀K:D->Mh->Prop,Kg t [.lst mf_] M K->Ai 1 (Kg t) m1_ [t_] M K:=λK h=>by
  show Ai 1 (Ey t) aY! [t_] M _;exact iU H_ (rZ hA hH hS) _ cb_
 refine hc _ (b6i (W':=W') ((k1_).nodup_iff.mpr hH.keys) ((k1_).nodup_iff.mpr hH.names) rM! (λo ho=>(hH.op o (hp.mem_iff.mp ho)).dg) (by rw[a6e hH.keys];exact hr) λo M1 ac ho hO hw fr=>?_);have fa:=fr a lC!;refine kI (fs:=hF yy ta wa .non) rfl (fa.1.trans hA.ob) lR! hP5 ?_;have L:Cf t (Bg M1 a ix!) o ac W' 1500:=hO.keep λc hc=>mup_ne λz=>hc (by rw[z];exact fa.2);have k:∀b,M b≠none->b≠a->Bg M1 a ix! b=M b:=λb hb hn=>(mup_ne hn).trans (in_).1;show"!c";have gq:Bm t (Bg M1 a ix!) yy a ta wa N_ S kl ca:={hA with ob:=mup_same,tk:=⟨ep,(k ta lC_ λz=>by rw[z,hA.ob]at ht;cases ht).trans ht⟩,wt:=(k wa lD! λz=>by have:=hA.wt;rw[z,hA.ob]at this;cases this).trans hA.wt,cl:=λh hh=>(k _ lD_ λz=>by have:=hA.cl h hh;rw[z,hA.ob]at this;cases this).trans lE!};exact dD (eO bt_ mup_same hF4) (hR _ o ac ⟨⟨yy,ta,wa,mup_same⟩,L⟩ gq k λb hb=>(in_).2)
variable{o:x7!}{rl:Addr->Nw}{W:OW}{x:D}
def a3d(h:al!):Ru (Cq t) [P!] M N_:=λK hK=>by
 obtain⟨yy,ta,wa,hob⟩:=h.hob;refine j_;refine fN (jC (eF wR! mi! rfl)) ?_;exact dD wR! hK
def OS.nob(h:al!)(hm:∀{a1 a2 a3 a4 a5 a6:x7!},(Z_).lookup m=none):Dh t.B4 m M N_:=by obtain⟨_,_,_,_,_,_,_,_,_,_,_,_,hA⟩:=h.out;exact hA.noOb hm
def b2x(h:al!)(hk:aD!):Ru fb_ cu_ M rT_:=λK hK=>by
 refine j_;exact dD (eK mk_ (h.nob oM1) aM_ λK hK=>tX h.out hk hK) hK
def c3t{R:s_}{Q:bf_}(vq:ml_)(hk:aD!)(hR:∀M' o rl,OS t M' a o rl W->Q M'->R rT_ M'):Hk t cu_ M R:=by refine j_;show Az tp_ [t_,aI_] M _;unfold Az Bb;refine a1v (a:=P!) rfl (vq _ λM' o rl h hQ=>⟨h.nob oM1,?_⟩);unfold Ab Af;rw[rV!];exact⟨rfl,tX h.out hk mm!⟩
def c8d{R:s_}{Q:bf_}(vq:ml_)(hk:aD!)(J:bS_)(hR:∀M' o rl,OS t M' a o rl W->Q M'->R N_ M'):Eb t cu_ M R:=by refine j_;show Ah na! tn_ [t_,aI_,none] M _;unfold Ah Am;refine a1v (a:=P!) rfl (vq _ λM' o rl h hQ=>?_);refine fN (ρ:=[t_,aI_,D_]) rX! ?_;exact dD gi! mm!
def yW{R:s_}{Q:bf_}(wi:Bs W)(vq:ml_)(hk:aD!)(J:bS_)(hR:∀M' o rl,OS t M' a o rl W->Q M'->R dl_ M'):El t cu_ M R:=by refine j_;show Az tr_ [t_,aI_] M _;unfold Az Bb;refine vH (a:=P!) (b:=x) rfl rfl (c8d vq hk J λM' o rl h hQ=>⟨h.nob d2z,?_⟩);unfold Ab Af;rw[rV!];exact⟨rfl,nK h.out wi b_ J mm!⟩
def b2q(h:al!)(hk:aD!)(J:bS_):Ru (Eb t) cu_ M N_:=λK hK=>by
 refine j_;refine fS mk_ ?_;refine fN rX! ?_;exact dD gi! hK
def wH(h:al!)(hk:aD!)(J:aZ!):Ru (Cr t) cu_ M N_:=λK hK=>by
 refine j_;refine fS mk_ ?_;refine fN (b0w (jC (b:=true) (eK gi! (h.nob oM2) aM_ λK hK=>hV h.out hk rW_))) ?_;exact dD gi! hK
def pV(h:al!)(wi:Bs W)(hk:aD!)(J:bS_):Ru gQ_ cu_ M dl_:=λK hK=>by
 refine j_;exact dD (eK (cL H_ aM_ (b2q h hk J)) (h.nob d2z) aM_ λK hK=>nK h.out wi b_ J hK) hK
def xF(h:al!)(hk:aD!)(J:aZ!)(hp:jQ!):Ru gS! cu_ M p:=λK hK=>by
 refine j_;exact dD (eK w7! (h.nob d4m) aM_ λK hK=>a3c h.out hk hp hK) hK
def b0b(h:al!)(wi:Bs W)(hk:aD!)(J:aZ!)(hj:pC_):Ru gR! cu_ M v:=λK hK=>by
 refine j_;exact dD (eK w7! (h.nob d4k) aM_ λK hK=>b0a h.out wi J b_ hj hK) hK
def c3y{f:ah_}{q2:WS}{R:j!}(h:f ρ=some false)(k:du!):Ah (Av (De f) Fh Bn) q2 ρ M R:=fN (a0l h) k
def b9n{i:Nat}(hi:i<4):Dw [fy!]=some z_:=b4x a! a!
def c0o{i:Nat}(h:al!)(wi:Bs W)(hk:aD!)(J:aZ!)(hi:i<4)(hv:bR_[i]?=some v):Ru (Gm t) [P!,x,fy!] M v:=λK hK=>by
 refine j_;have hn:Ru (Er t) [P!,x,fy!] M N_:=λK hK=>by
  refine j_;show Ah tp! (Az i1!) eS_ M _;have hp:Ct to_ eS_=some false:=by
   have:f1 Dw bz_ eS_=some z_:=(c2g (b2o (f:=Aa 2) (d:=fy!) rfl)).trans (b9n hi);unfold Ct fT;rw[this];rfl
  have f0:Aa 0 eS_=some cE!:=rfl;have mi:Aa 1 eS_=some x:=rfl;generalize eS_=env at hp f0 mi ⊢;exact c3y hp (dD (cL (aP f0) (aP mi) (wH h hk J)) hK)
 have me:Bt M fl! mp!=some v:=by
  show Dc bR_ cS_=_;unfold Dc Ea;rw[ac!,HY (by rw[wi.nl x J];omega)];simpa using hv
 exact dD (eF (eK (a6y H_ aM_ mq! hn) (h.nob d4j) aM_ λK hK=>zM h.out wi J hK) mq! me) hK
end
def Sb(W:OW):Prop:=∀x∈W.its,∀d∈W.num x,∃i:Int,d=.int i
def c0p{W:OW}(h:Sb W)(hs:qv!):Sb W':=by
 cases hs with
 |put _ _ _=>
  intro x J e he;have cp:e∈v3_:=he;by_cases c:x=n
  .rw[HY c]at cp;simp only[HN,JF,KY]at cp;exact⟨0,by obtain z|z|z|z:=cp<;>exact z⟩
  .rw[HP c]at cp;have me:x∈W.its++[n]:=J;exact h x ((HX.mp me).resolve_right λz=>c qA!) e cp
 |mvY _ _ _ _ _=>exact h
 |mvN _ _ _ _=>exact h
 |drY _ _ _=>exact h
 |drN _ _=>exact h
 |wrt _ _ _ _=>split;exact h;exact h
 |cut _ _ _ _=>split;exact h;exact h
 |@set a p v _ _ _=>
  split
  .intro x J e he;have cp:e∈(if x=a then(pq_).set p.toNat kE! else W.num x):=he;by_cases c:x=a
   .rw[HY c]at cp;obtain z|z:=List.mem_or_eq_of_mem_set cp
    .exact h a (c▸J) e z
    .exact⟨v,z⟩
   .rw[HP c]at cp;exact h x J e cp
  .exact h
def a7l{W:OW}{os:f_}(hr:Run W os W'):Sb W->Sb W':=by
 induction hr with
 |nil=>exact id
 |cons hs _ ih=>exact λh=>ih (c0p h hs)
def b4r{W W':OW}(hs:qv!):∀x∈W'.its,x∈W.its\/x=n:=by
 cases hs with
 |put _ _ _=>
  intro x J;have me:x∈W.its++[n]:=J;exact(HX.mp me).imp id HZ.mp
 |mvY _ _ _ _ _=>exact λx J=>.inl J
 |mvN _ _ _ _=>exact λx J=>.inl J
 |drY _ _ _=>exact λx J=>.inl J
 |drN _ _=>exact λx J=>.inl J
 |wrt _ _ _ _=>split;exact λx J=>.inl J;exact λx J=>.inl J
 |cut _ _ _ _=>split;exact λx J=>.inl J;exact λx J=>.inl J
 |set _ _ _=>split;exact λx J=>.inl J;exact λx J=>.inl J
def c5s{W W':OW}{os:f_}(hr:Run W os W'):∀x∈W'.its,x∈W.its\/∃o∈os,x=o.nm:=by
 induction hr with
 |nil=>exact λx J=>.inl J
 |cons hs _ ih=>
  intro x J;obtain z|⟨o,ho,z⟩:=ih x J
  .obtain z|z:=b4r hs x z
   .exact cC!
   .exact .inr ⟨_,HQ,z⟩
  .exact .inr ⟨o,HL _ ho,z⟩
structure Zg(W V:OW):Prop where
 its:W.its=V.its
 txt:W.txt=V.txt
 num:W.num=V.num
 ch:∀x,chl W.rows x=chl V.rows x
def a5n{x:D}:chl dk! x=(chl rows x).filter λc=>decide (c≠i):=by unfold chl wo;rw[MH,OD,OD];congr 1;apply KU;intro q _;exact Bool.and_comm _ _
def b7x(h:r0_){x:D}(w:Wn r1 i x):Wn r2 i x:=by
 induction w with
 |here=>exact .here
 |up Y _ ih=>exact .up (eV.mp (by rw[<-h];exact eV.mpr Y)) ih
def a5c{r1 r2:i!}(h:r0_)(n1:(r1.map c_).Nodup)(n2:(r2.map c_).Nodup)(Y:Qe r1 i p s t6)(L:Qe r2 i p s t9)(x:D):chl t6 x=chl t9 x:=by
 by_cases c:p=x
 .subst c;rw[Y.chl_same n1,L.chl_same n2,a5n,a5n,h]
 .rw[Y.chl_ne c,L.chl_ne c,a5n,a5n,h]
def rH{P:Prop}(e:D.tup ci_=.tup (.str k'::r'))(h:k≠k'):P:=by
 injection e with e
 injection e with e _
 injection e with e
 exact absurd e h
def c3w{W V:OW}(e:gk_)(wi:Bs W)(vi:Bs V)(Y:Stp W n d W1)(L:Stp V n d V1):Zg W1 V1:=by
 have ei:∀x,Ew W x↔Ew V x:=λx=>by unfold Ew;rw[e.its]
 have ew:∀i x,Wn W.rows i x↔Wn V.rows i x:=λi x=>⟨b7x e.ch,b7x λx=>(e.ch x).symm⟩;generalize ed:d=d' at L;cases Y with
 |put _ _ g1=>
  cases L with
  |put _ _ g2=>
   cases ed;rename_i a b r1 _ _ r2 _ _;have ep:cI_=(if Ew V a then a else binn):=by simp only[ei]
   rw[ep]at g1;exact⟨by simp only[Fo,e.its],by simp only[Fo,e.txt],by simp only[Fo,e.num],r2_⟩
  |_=>exact rH ed k!
 |mvY _ _ _ c1 g1=>
  cases L with
  |mvY _ _ _ c2 g2=>cases ed;exact r3!
  |mvN _ _ _ c2=>cases ed;exact absurd r3_ c2
  |_=>exact rH ed k!
 |mvN _ _ _ c1=>
  cases L with
  |mvY _ _ _ c2 g2=>cases ed;exact absurd r4_ c1
  |mvN _ _ _ c2=>exact e
  |_=>exact rH ed k!
 |drY _ c1 g1=>
  cases L with
  |drY _ c2 g2=>cases ed;exact r3!
  |drN _ c2=>cases ed;exact absurd r3_ c2
  |_=>exact rH ed k!
 |drN _ c1=>
  cases L with
  |drY _ c2 g2=>cases ed;exact absurd r4_ c1
  |drN _ c2=>exact e
  |_=>exact rH ed k!
 |wrt _ _ _ hn=>
  cases L with
  |wrt _ _ _ iq=>
   cases ed;rw[hn]at iq;cases iq;rw[e.its];split
   .exact r4!
   .exact e
  |_=>exact rH ed k!
 |cut _ _ _ _=>
  cases L with
  |cut _ _ _ _=>
   cases ed;rw[e.its];split
   .exact r4!
   .exact e
  |_=>exact rH ed k!
 |set _ _ _=>
  cases L with
  |set _ _ _=>
   cases ed;rw[e.its];split
   .exact⟨e.its,e.txt,by simp only[Ss,e.num],e.ch⟩
   .exact e
  |_=>exact rH ed k!
def b3h:∀{os:f_} {W V W1 V1:OW} {pre:c!},Zg W V->Rt W pre->Rt V pre->(∀o∈os,o.nm∉pre)->(kY_).Nodup->Run W os W1->Run V os V1->Zg W1 V1
 |[],_,_,_,_,_,e,_,_,_,_,.nil,.nil=>e
 |o::os,W,V,W1,V1,pre,e,hw,hv,hp,nd,.cons s1 r1,.cons s2 r2=>by
  rw[HV,IJ]at nd;have hn:=hp o HQ;refine b3h (c3w e hw.inv hv.inv s1 s2) (a2h s1 hw hn) (a2h s2 hv hn) (λx J z=>?_) nd.2 r1 r2;obtain z|z:=HX.mp z
  .exact hp x aU_ z
  .exact nd.1 (by rw[<-show x.nm=o.nm from HZ.mp z];exact IB J)
section
variable{t:Au}{M:Mh}{ρ:Ae}{a w:x7!}{W:OW}{o:x7!}{rl:Addr->Nw}{ak:Addr->LR}{x:D}
def b7p(wi:Bs W){x:D}:Bi dl_=true/\Il dl_<=40:=by
 have h:∀d∈chl W.rows x,Sd d:=λd hd=>(jD wi dx_ (eV.mp hd)).1.sd;show"!L"
 .show By g8!=true;exact iN λd hd=>eA (h d hd)
 .show Dq g8!+1<=40;have:=kC (n:=5) λd hd=>iZ (h d hd);omega
def ER(t:Au):WS:=Av u2_ bC! Bn
def chl_ne(wi:Bs W):Eg dl_ dl_=some Q!:=by obtain⟨n1,n2⟩:=b7p wi (x:=x);exact iJ n1 n2
def c4h{V:OW}{R:j!}(h:al!)(hL:gl_)(ev:gk_)(wi:Bs W)(vi:Bs V)(hl:r5_)(hk:aD!)(J:bS_)
  (hR:R (.nx gm!) M):ER t gm! M R:=by
 refine lY (c7h (b:=false) (c:=false) (jC (eF (cL H_ aM_ (b2x h hk)) r6! (by rw[IV J];rfl))) (λ_=>?_) λz=>by cases z) hR;refine jC (eF (cL H_ aM_ (pV h wi hk J)) (cL dO_ aM_ λK hK=>a5v hL vi (a4z wi J) hl hK) ?_);rw[<-ev.ch x];exact chl_ne wi
def b3g{V:OW}(h:al!)(hL:gl_)(ev:gk_)(wi:Bs W)(vi:Bs V)(hl:r5_):∀(xs:c!) (y:ao!) (R:j!),r7_->r8_->Ig Q_ ae_ (ER t) xs [t_,R_,B_,y] M R
 |[],y,R,_,hR=>r9!
 |x::xs,y,R,J,hR=>by
  refine aJ!;obtain⟨k,hk⟩:=oB wi eT_;exact c4h h hL ev wi vi hl hk eT_ (b3g h hL ev wi vi hl xs eV! R mu! hR)
def c4n{f:WE}(h:lx_):Pu (Wy (Ab f Af)) ρ M (.lst [d]):=λK hK=>by
 unfold Wy Ab Af;exact h _ ⟨by show 1<=1000;decide,hK⟩
def a3b{f g:WE}(h:lx_)(L:Pu g ρ M e):Pu (Qi (Ab f (Ab g Af))) ρ M (.tup [d,e]):=λK hK=>by
 unfold Qi Ab Af;exact h _ (L _ ⟨by show 2<=1000;decide,hK⟩)
def b6e(J:Sd x)(hp:Sd p):Bi mv_=true/\Il mv_<=40:=by
 have d1:=iZ J;have d2:=iZ hp;show"!L"
 .show By mw!=true;refine iN λd hd=>?_;rw[HZ.mp hd];refine iN λd hd=>?_;simp only[HN,JF,KY]at hd;obtain rfl|rfl:=hd
  .exact eA J
  .exact eA hp
 .have Y:Dq [x,p]<=5:=kC λd hd=>by
   simp only[HN,JF,KY]at hd;obtain rfl|rfl:=hd
   .exact d1
   .exact d2
  have L:Dq mw!<=6:=kC λd hd=>by
   rw[HZ.mp hd];show Dq [x,p]+1<=6;omega
  show Dq mw!+1<=40;omega
def b6d(hL:Br M w ak W)(wi:Bs W)(hl:k8!)(J:aZ!)(hp:jQ!):
  Pu u4_ gm! M mv_:=λK hK=>by
 obtain⟨wt,wn,qa,hA⟩:=hL;obtain⟨e,hw⟩:=hA.mw;unfold Bf Bw;have i1:Bt M bH_ d4_=some (.lst fP!):=(gS (k:=Ak_) hw rfl).trans k3r;refine eF dO_ (aP (d:=.str "rows") rfl) i1 _ ?_;refine qA_;refine cP (λd=>match d with|.tup [i,_]=>decide (i=x)|_=>false) id trivial _ _ bG_ ?_
 .show"!=";show"#7";refine p9_
  .have e1:fT jg! cR!=some le_:=by
    have:f2 Ba aX! v_ cR!=some (.bl le_):=by
     show Ao!;rw[vZ];exact lF Y.sd (mw_).sd
    show"!J"
   unfold De;rw[e1];exact hK
  .rw[dI (f:=Aa 0) (d:=Bh q) rfl];exact hK
 .have e2:(((fP!).filter λd=>match d with|.tup [i,_]=>decide (i=x)|_=>false).map id)=[.tup [x,p]]:=by
   rw[RU,MH];show(ld_).map Bh=_;rw[b5i wi hp];rfl
  rw[e2];exact hK
def tI{ix:l!}(hc:Tj 1 ix ρ=[none,t_,aI_])(h:al!)(wi:Bs W)(hk:aD!)(J:aZ!):
  Pu (Bf 1 ix jq_ E_ bk! jr_) ρ M fl!:=λK hK=>by
 have hi:Eu c5! ρ=some sa!:=vU (n:=4) rfl b_;unfold Bf Ia;rw[hi,hc];refine mx_;have hl:=wi.nl x J;refine cP cN! (λd=>match d with|.int i=>(bR_).getD i.toNat .non|_=>.non) trivial _ _ bG_ ?_
 .obtain⟨i,hi,rfl⟩:=IH.mp hd;have df:=NT.mp hi;refine⟨[some mp!,t_,aI_],rfl,fF_,dw_⟩;have hv:bR_[i]?=some ((bR_).getD i .non):=by
   rw[List.getD_eq_getElem?_getD,II a!];rfl
  exact a6y H_ aM_ mq! (c0o h wi hk J df hv) _ hK
 .have e2:(((sa!).filter λ_=>true).map λd=>match d with|.int i=>(bR_).getD i.toNat .non|_=>.non)=W.num x:=by
   rw[fG!,JL]
   match hh:W.num x,hl with
   |[a,b,c,d],_=>rfl
  rw[e2];exact hK
def a0t(hn:Sb W)(J:aZ!):Bi fl!=true/\Il fl!<=40:=by
 have h:=hn x J;show"!L"
 .show By bR_=true;exact iN λd hd=>by obtain⟨i,rfl⟩:=h d hd;rfl
 .show Dq bR_+1<=40;have:=kC (n:=0) (ds:=W.num x) λd hd=>by obtain⟨i,rfl⟩:=h d hd;exact IM _
  omega
def DK(t:Au):WS:=(Ah u3!
 (Ah u5!
 u6_))
def c4g{V:OW}{R:j!}(h:al!)(hL:gl_)(ev:gk_)(vi:Bs V)(lv:Pw V 1500)(hw:cM!)(au:gn_)(hn:Sb W)(J:aZ!)(hR:R (.nx gm!) M):DK t gm! M R:=by
 have wi:=hw.inv;obtain⟨k,hk⟩:=(mw_).key;have l1:=lv.rows;show"#;";refine fN ?_ ?_
 .refine jC (eF sc! (cL dO_ dQ_ λK hK=>zB hL sc_ hk (by rw[<-ev.txt];omega) (by unfold Ux at hj ⊢;rw[<-ev.txt];exact hj) hK) ?_);exact iJ rfl sd_
 refine fN ?_ ?_
 .refine jC (eF (c4n (a3b dQ_ se!)) (b6d hL vi a! sc_ (eV.mp (by rw[<-ev.ch];exact eV.mpr hq))) ?_);obtain⟨n1,n2⟩:=b6e (wi.nm q1 J).sd sp;exact iJ n1 n2
 refine lY ?_ hR;obtain⟨wt,wn,qa,hA⟩:=id hL;obtain⟨e0,vt⟩:=hA.mw;obtain⟨e1,hn1⟩:=hA.mn;have YA:q1∈V.its:=by rw[<-ev.its];exact J
 obtain⟨hq1,_⟩:=hA.mq q1 YA;have i1:Bt M bH_ nC_=some eB_:=(gS (k:=some (.inl (.inr "numbers"))) vt rfl).trans k3n;have i2:Bt M eB_ q1=some my_:=(gS hn1 hk).trans (by rw[nA,HY YA]);refine jC (eF (tI (ix:=[0,3]) rfl h wi hk J) (eF (eF dO_ (aP (d:=A9_) rfl) i1) dQ_ i2) ?_);have:Rw M my_=.lst (W.num q1):=by simp only[Rw,hq1,ev.num]
 show Eg (.lst (W.num q1)) (Rw M my_)=_;rw[this];obtain⟨n1,n2⟩:=a0t hn J;exact iJ n1 n2
def b3f{V:OW}{ck:bf_}(cr:ck M)(h:al!)(hL:gl_)(ev:gk_)(vi:Bs V)(lv:Pw V 1500)(hw:cM!)(au:gn_)(hn:Sb W):∀(xs:c!) (y:ao!) (R:j!),sf!->r8_->Ig Q_ ck (DK t) xs [t_,R_,B_,y] M R
 |[],y,R,_,hR=>⟨cr,hR y⟩
 |x::xs,y,R,J,hR=>by
  refine kJ!;refine c4g h hL ev vi lv hw au hn eT_ ?_;exact b3f cr h hL ev vi lv hw au hn xs eV! R mu! hR
def b0t:Uc t=Ah u0!
 (Ah (Df u1! Q_ (ER t))
 (Ah (Df (Iw nL!) Q_ (DK t))
 u7!)):=rfl
def c7o{ops:f_}{h n:Int}(hr:mz_)(hn:∀o∈ops,¬(o.h=h/\o.n=n)):ad_∉W.its:=λz=>by
 obtain z|⟨o,ho,z⟩:=c5s hr _ z
 .cases z
 .show"!9";exact hn o ((bP ops).mem_iff.mp (KQ.mp ho).1) ⟨z.1.symm,z.2.1.symm⟩
def d4o{ops:f_}(hO:Hist ops)(hr:mz_):¬Ew W (.tup ks!):=λz=>by
 obtain z|z|z:=z
 .exact c7o hr (λo ho e=>by have:=(mA!).hh;omega) z
 .cases z
 .cases z
def a4t{V:OW}(hL:gl_)(hl:V.its.length<5000):∃wt e,Bt M bH_ ny!=some fP_/\M wt=some (.dct mA_ e)/\Nr M [.fn wt]=some (.lst V.its)/\Mi M (.lst hM!) (.lst V.its)=some (.lst (hM!++V.its))/\(mA_).map c_=V.its:=by
 obtain⟨wt,wn,qa,hA⟩:=hL;obtain⟨e0,vt⟩:=hA.mw;obtain⟨e1,ht⟩:=hA.mt;have ek:(mA_).map c_=V.its:=by
  rw[JL];show V.its.map (λi=>i)=_;rw[List.map_id']
 refine⟨wt,e1,(gS (k:=some (.inl (.inr "texts"))) vt rfl).trans k3t,ht,?_,?_,ek⟩
 .show((Ee M fP_).map λq=>D.lst h3_)=_;rw[cM ht];exact congrArg (λl=>some (D.lst l)) ek
 .show(if[root,binn].length+V.its.length<=big then _ else none)=_;rw[HY (by simp only[IE,LP];unfold big;omega)]
def b5g:∀x∈root::binn::W.its,Ew W x:=λx J=>by
 obtain rfl|J:=HN.mp J
 .exact .inr G!
 .obtain rfl|J:=HN.mp J
  .exact .inr fc_
  .exact .inl J
def b7s{ops:f_}{R:s_}(h:al!)(hO:Hist ops)(hl:cN_)(TV:mz_)(hw:cM!)(au:gn_)(hR:∀M',R z_ M'):Om t [P!,ey!] M R:=by
 refine j_;rw[b0t];unfold Ah Am;refine a1v (a:=ey!) rfl (a9q hO.keys hO.names hl mB! λw M1 dm V vt hr hL hv lv fr=>?_);obtain⟨pv,hv⟩:=hv;have ev:Zg W V:=b3h (pre:=[]) ⟨rfl,rfl,rfl,e4_⟩ b5l b5l (λ_ _ z=>by cases z) (((OU).map Op.nm).nodup (((bP ops).map _).nodup_iff.mpr hO.names)) TV hr;have Y:OS t M1 a o rl W:=⟨by obtain⟨yy,ta,wa,z⟩:=h.hob;exact⟨yy,ta,wa,(fr a (by rw[z];simp)).1.trans z⟩,h.out.keep λc hc=>(fr c (h.out.live hc)).1⟩;have l1:=lv.rows;have l2:=lv.its;have hn:Sb W:=a7l TV λx J=>by cases J
 obtain⟨wt,e1,i1,ht,kd,ad,ek⟩:=a4t hL a!;unfold Df Bw;refine eF sk_ sl_ ad _ ?_;refine b3g Y hL ev hw.inv hv.inv a! (root::binn::V.its) none _ (by rw[<-ev.its];exact b5g) λy'=>?_;show Df (Iw _) Q_ (DK t) [t_,cO!,B_,y'] M1 _;unfold Df Iw;refine eF dO_ mB_ i1 _ ?_;rw[cM ht];refine jE ?_;rw[ek];refine b3f (pre:=pre) ht Y hL ev hv.inv lv hw au hn V.its y' _ (λx J=>by rw[ev.its];exact J) λy2=>?_;have h99:¬Ew W (.tup ks!):=d4o hO TV;have hth:Ru fb_ [P!,ks_] M1 Q!:=by
  have:=b2x (k:=some (.inr [.inl 9,.inl 9])) Y (x:=ks_) rfl;rw[IF h99]at this;exact this
 exact dD (eF (cL H_ (aP (d:=ks_) rfl) hth) (aP (d:=mr_) rfl) (d:=gj_) rfl) (hR M1)
end
section
variable{t:Au}{M:Mh}{ρ:Ae}{a b w o o':x7!}{rl ac:Addr->Nw}{W:OW}{x:D}
def OS.kp{M':Mh}(h:al!)(ha:M' a=M a)(k:pX_):OS t M' a o rl W:=⟨by obtain⟨yy,ta,wa,z⟩:=h.hob;exact⟨yy,ta,wa,ha.trans z⟩,h.out.keep k⟩
def c4j(h:Sd x):Rw M x=x:=by obtain rfl|⟨s,rfl⟩|⟨i,rfl⟩|⟨ns,rfl⟩:=h<;>rfl
def FE(t:Au):WS:=Av u9_ bC! Bn
def FD(t:Au):WS:=Ah vb!
 vc_
def b5k(h:al!)(h':sr!)(wi:Bs W):∀(xs:c!) (y:ao!) (R:j!),r7_->sq!->Ig cx! ae_ (FE t) xs sq_ M R
 |[],y,R,_,hR=>r9!
 |x::xs,y,R,J,hR=>by
  refine aJ!;obtain⟨k,hk⟩:=oB wi eT_;show FE t [t_,eW!,some x2,y3,aI_] M _;refine lY (jC (eF (cL H_ aM_ (pV h wi hk eT_)) (cL gr_ aM_ (pV h' wi hk eT_)) (chl_ne wi))) ?_;exact b5k h h' wi xs eV! R mu! hR
def b5j{ck:bf_}(cr:ck M)(h:al!)(h':sr!)(hw:cM!)(au:gn_)(hn:Sb W):∀(xs:c!) (y:ao!) (R:j!),sf!->sq!->Ig cx! ck (FD t) xs sq_ M R
 |[],y,R,_,hR=>⟨cr,hR y⟩
 |x::xs,y,R,YB,hR=>by
  refine kJ!;have J:=YB x HQ;have wi:=hw.inv;obtain⟨k,hk⟩:=(mw_).key;show"#;";refine fN (c7h (b:=false) (c:=false) (jC (eF sc! (cL gr_ dQ_ (b0b h' wi hk J hj)) ?_)) (λ_=>jC (eF se! (cL gr_ dQ_ (xF h' hk J hq)) ?_)) λz=>by cases z) ?_
  .exact iJ rfl sd_
  .show Eg (Rw M p) (Rw M p)=_;rw[c4j sp];exact iJ (eA sp) (JB (iZ sp) b_)
  refine lY (jC (eF (tI (ix:=[0,4]) rfl h wi hk J) (tI (ix:=[1,4]) rfl h' wi hk J) ?_)) ?_
  .obtain⟨n1,n2⟩:=a0t hn J;exact iJ n1 n2
  exact b5j cr h h' hw au hn xs (some q1) R (λz hz=>YB z h8_) hR
def b0u:Uf t=Ah u8!
 (Ah (Df u8_ cx! (FE t))
 (Ah (Df (Iw nM_) cx! (FD t))
 (Az eX!))):=rfl
def FM(g:bf!)(q1 q2:WS)(ρ:Ae)(R:j!)(x y:D)(M:Mh):Prop:=match g M x y with
 |some d=>(match d with|.bl b=>(if b then q1 ρ M R else q2 ρ M R)|_=>False)
 |none=>False
def GM(g:bf!)(fb:WE)(q1 q2:WS)(ρ:Ae)(R:j!)(x:D)(M:Mh):Prop:=fb ρ M (FM g q1 q2 ρ R x)
def d0c{fa fb:WE}{g:bf!}{q1 q2:WS}{R:j!}(h:fa ρ M (GM g fb q1 q2 ρ R)):Av (wT (w2 g fa fb)) q1 q2 ρ M R:=h
def d0d{g:bf!}{q1 q2:WS}{R:j!}{x:D}(hg:g M x y=some Q!)(k:du!):FM g q1 q2 ρ R x y M:=by unfold FM;rw[hg];show(if false=true then _ else _);rw[W_];exact k
def a2d{y1 y2:Int}{S T ops:f_}{kl kk:w_}{ca cb:lA!}{R:s_}(hA:Bm t M y1 a ta wa .non S kl ca)(hB:Bm t M y2 b tb wb .non T kk cb)(dj:∀c,Ow a ta wa kl ca c->¬Ow b tb wb kk cb c)(hS:cr_)(hT:Hist T)(hO:Hist ops)(lS:cW!)(lT:T.length<64)(hl:cN_)
  (rS:∀W,Run W0 fM_ W->Run W0 (Jf jW! eg_) W)(rT:∀W,Run W0 fM_ W->Run W0 (Jf (Gr .str (srt T) []) (srt T)) W)
  (hR:∀M' o o' rl ac W pre,Run W0 fM_ W->Rt W pre->Pw W 1500->Bm t M' y1 a ta wa N_ S kl ca->Bm t M' y2 b tb wb (.fn o') T kk cb->OS t M' a o rl W->OS t M' b o' ac W->(∀c,M c≠none->c≠a->c≠b->M' c=M c)->(∀c,M c≠none->rl c=.oth/\ac c=.oth)->R z_ M'):Je t [P!,.fn b,ey!] M R:=by
 refine j_;rw[b0u];unfold Ah Am;refine a1v (a:=ey!) rfl (a9q hO.keys hO.names hl mB! λw M1 dm W vt hr hL hw au fr=>?_);obtain⟨pre,hw⟩:=hw;have wi:=hw.inv;have la:M a≠none:=hA.lv G!;have lb:M b≠none:=hB.lv G!;have ab:a≠b:=λz=>dj a G! ca_;have ik:=hA.keep λc hc=>(iM!).1;have hB1:=hB.keep λc hc=>(iM!).1;have hn:Sb W:=a7l hr λx J=>by cases J
 have l2:=au.its;obtain⟨wt,e1,i1,ht,kd,ad,ek⟩:=a4t hL a!;unfold Df Bw;refine eF sk_ sl_ ad _ ?_;refine aJ!;refine d0c (vH (a:=P!) (b:=root) rfl rfl (yW (W:=W) (Q:=λM2=>∃o rl,Bm t M2 y1 a ta wa N_ S kl ca/\OS t M2 a o rl W/\(∀c,M1 c≠none->c≠a->M2 c=M1 c)/\∀c,M1 c≠none->rl c=.oth) wi (λK hK=>a3e ik hS lS (rS W hr) λM2 o rl fq gq k2 r2=>hK M2 o rl fq ⟨o,rl,gq,fq,k2,r2⟩) (k:=mK_) rfl dD_ λM2 _ _ _ ⟨o,rl,gq,fq,k2,r2⟩=>?_));have m1:∀c,M c≠none->M1 c≠none:=λc hc=>by rw[(iM!).1];exact hc
 have hB2:=(hB1.mv (O:=(·=a)) (O':=(·=a)) ⟨λc hc ho=>k2 c hc ho,sy_⟩ λc hc z=>dj a G! (z▸hc)).1;have yc:Br M2 w dm W:=hL.keep λc hc=>k2 c (hL.live hc) λz=>hc (by rw[z];exact(fr a la).2);unfold GM;refine vH (a:=.fn b) (b:=root) rfl rfl (yW (W:=W) (Q:=λM3=>∃o' ac,Bm t M3 y2 b tb wb (.fn o') T kk cb/\OS t M3 b o' ac W/\(∀c,M2 c≠none->c≠b->M3 c=M2 c)/\∀c,M2 c≠none->ac c=.oth) wi (λK hK=>a3e hB2 hT lT (rT W hr) λM3 o' ac sf TW k3 r3=>hK M3 o' ac sf ⟨o',ac,TW,sf,k3,r3⟩) (k:=mK_) rfl dD_ λM3 _ _ _ ⟨o',ac,TW,sf,k3,r3⟩=>d0d (chl_ne wi) ?_);have sh:=(gq.mv (O:=(·=b)) (O':=(·=b)) ⟨λc hc ho=>k3 c hc ho,sy_⟩ λc hc z=>dj c hc ca_).1;have m2:∀c,M c≠none->M2 c≠none:=λc hc=>by
  by_cases z:c=a
  .rw[z];exact gq.lv G!
  .rw[k2 c mL! z];exact m1 c hc
 have TX:OS t M3 a o rl W:=fq.kp (k3 a (gq.lv G!) ab) λc hc=>k3 c (fq.out.live hc) λz=>hc (by rw[z];exact r2 b (m1 b lb));have hL3:Br M3 w dm W:=yc.keep λc hc=>k3 c (yc.live hc) λz=>hc (by rw[z];exact(fr b lb).2);refine b5k TX sf wi (binn::W.its) (some root) _ (λx J=>b5g x aU_) λy'=>?_;obtain⟨wt3,e3,i3,YC,_,_,ek3⟩:=a4t hL3 a!;show Df (Iw _) cx! (FD t) [t_,eW!,cO!,B_,y'] M3 _;unfold Df Iw;refine eF dO_ mB_ i3 _ ?_;rw[cM YC];refine jE ?_;rw[ek3];refine b5j (pre:=pre) YC TX sf hw au hn W.its y' _ (λx J=>J) λy2=>?_;refine dD r6! (hR M3 o o' rl ac W pre hr hw au sh TW TX sf (λc hc ca cb=>?_) λc hc=>⟨r2 c mL!,r3 c (m2 c hc)⟩);rw[k3 c (m2 c hc) cb,k2 c mL! ca,(iM!).1]
end
abbrev DM:D:=.tup ks!
abbrev AV:D:=.tup [o8_,DM]
def d3w:DG AV:=.drop (.inr xO!)
structure Lk(f:gu!):Prop where
 h:∀o,(f o).h=o.h
 n:∀o,(f o).n=o.n
 t:∀o,(f o).tm=o.tm
def Lk.hs{f:gu!}(l:Lk f)(os:f_)(h:Int):hs ib! h=(h8!).map f:=by unfold K24.hs;rw[MH];congr 1;exact KU λo _=>by simp[l.h]
def Lk.hist{f:gu!}(l:Lk f){os:f_}(h:lp_)(hd:∀o∈os,DG (f o).d):Hist ib!:=by
 refine⟨λk=>?_,λo ho=>?_⟩
 .rw[l.hs];refine⟨λi o e=>?_,?_⟩
  .rw[JC]at e;obtain⟨x,J,rfl⟩:=HU.mp e;rw[l.n];exact(lu_).num i x J
  .rw[PY];exact(lu_).tim.imp λ{a b} z=>by rw[l.t,l.t];exact z
 .show"#3";have g:=h.op x J;exact⟨by rw[l.h];exact g.hh,by rw[l.t];exact g.t1,by rw[l.t];exact g.t2,by rw[l.n];exact g.n1,by rw[l.n];exact g.n2,hd x J⟩
def Lk.srt{f:gu!}(l:Lk f)(os:f_):srt ib!=(eY_).map f:=pX (f:=f) (k:=Op.key) (k':=Op.key) (λo=>by simp only[Op.key,l.h,l.t]) os
nonrec def rp(g:D)(o:Op):Op:=if o.nm=g then{o with d:=AV}else o
def c1g:Lk (rp g):=⟨mM!,mM!,mM!⟩
nonrec def nu(o:Op):Op:=if Et o.d=none then o else{o with d:=AV}
def c1h:Lk nu:=⟨mM_,mM_,mM_⟩
def Pl(os:f_):Prop:=∀o∈os,Et o.d=none
def d1u:Et AV=none:=by decide+kernel
def d2k{os:f_}:Pl (os.map nu):=λo ho=>by
 obtain⟨x,_,rfl⟩:=IH.mp ho;unfold nu;split
 .assumption
 .exact d1u
def d2j{os:f_}(h:Pl os):Pl sE!:=λo ho=>by
 show"#3";unfold rp;split
 .exact d1u
 .exact h x J
def Pl.srt{os:f_}(h:Pl os):Pl eY_:=λo ho=>h o mN!
def kE(f:kM!):∀(a b:f_) (acc:i!),Gr f (a++b) acc=Gr f b (Gr f a acc)
 |[],b,acc=>rfl
 |o::a,b,acc=>by
  rw[LY,Gr,Gr];cases Et o.d with
  |none=>exact kE f a b _
  |some k=>exact kE f a b _
def wJ(f:kM!):∀{os:f_} (acc:i!),Pl os->Gr f os acc=acc
 |[],acc,_=>rfl
 |o::os,acc,h=>by
  unfold Gr;rw[h o HQ];exact wJ f acc λx J=>h x aU_
def vQ(f:kM!){o:Op}(h:Et o.d=some (k,a)):Gr f [o] acc=As acc a (f k):=by unfold Gr;rw[h];rfl
def a5e{os:f_}(h:Pl os)(hk:∀o∈os,kget wd o.nm≠some bk_):Jf wd os=os:=JX.mpr λo ho=>IV ⟨h o ho,hk o ho⟩
def lH{a b:f_}:Jf wd (a++b)=Jf wd a++Jf wd b:=PJ ..
def tZ{o:Op}{k:Str×D}(h:Et o.d=some k):Jf wd [o]=[]:=by unfold Jf;rw[JQ (by simp[h])];rfl
def b1z{os:f_}(h:Pl os):Jf (Gr .str eY_ []) eY_=srt os:=by rw[wJ _ _ h.srt];exact a5e h.srt λo _ z=>by cases z
def mB{S:f_}{u:Op}(nd:((S++[u]).map Op.key).Nodup)(h:∀x∈S,x.tm<u.tm):srt (S++[u])=srt S++[u]:=by
 have n1:(S.map Op.key).Nodup:=by rw[IU,IY]at nd;exact nd.1
 refine lZ (kf:=Op.key) ls_ ?_ ((bP _).trans ((bP S).symm.append_right [u]));unfold Ot;rw[NO];exact⟨gV n1,QC _ _,λx J y hy=>by rw[HZ.mp hy];exact qR.mpr (.inl (h x ((bP S).mem_iff.mp J)))⟩
def d1y{W:OW}(hs:Stp W n d W1)(e:d=AV)(h:DM∉W.its):W1=W:=by
 cases hs with
 |drY _ c _=>cases e;exact absurd c.1 h
 |drN _ _=>rfl
 |_=>exact rH e k!
def b0o:∀{os:f_} {W W':OW},(∀o∈os,o.nm≠DM)->DM∉W.its->Run W sE! W'->Run W (os.filter λo=>decide (o.nm≠g)) W'
 |[],W,W',_,_,h=>by cases h;exact .nil
 |o::os,W,W',hn,h0,h=>by
  obtain⟨W1,s,r⟩:∃W1,Stp W (rp g o).nm (rp g o).d W1/\Run W1 (os.map (rp g)) W':=by cases h with|cons s r=>exact⟨_,s,r⟩
  have m7:=λx J=>hn x aU_;by_cases c:o.nm=g
  .rw[JQ ll_];have e:=d1y s (by unfold rp;rw[HY c]) h0;rw[e]at r;exact b0o m7 h0 r
  .rw[JY ll_];have eo:rp g o=o:=by unfold rp;rw[HP c]
   rw[eo]at s;exact .cons s (b0o m7 (λz=>(b4r s _ z).elim h0 λz=>hn o HQ z.symm) r)
def Hist.pre{S:f_}{o:Op}(h:Hist gm_):Hist S:=⟨λk=>by have:=h.ch k;rw[cE]at this;exact⟨λi x e=>this.num i x (by rw[KA (qc!).1];exact e),(NO.mp this.tim).1⟩,λx J=>h.op x (IS _ J)⟩
structure Wd(os:f_):Prop where
 hist:Hist os
 hs:∀x∈os,qE_/\x.tm<=24
 pl:Pl os
 len:ap_<=8
section
variable{os:List Op}{g:D}
def Wd.no{h:Int}(w:bM_)(hh:h=11\/h=12\/h=3):K24.hs os h=[]:=QJ.mpr λo ho z=>by
 have:=(mR_).1;have:=KM z;omega
def wL{g:D}:Et (.tup [et_,g])=some (Str.ofString "undo",g):=by rw[gL,HY k!]
def b8c{g:D}:Et (.tup [kq!,g])=some (Str.ofString "redo",g):=by rw[gL,HY k!]
nonrec def uO(tu:Int)(g:D):Op:=⟨11,1,tu,.tup [et_,g]⟩
nonrec def rO(rh rn:Int)(g:D):Op:=⟨rh,rn,60,.tup [kq!,g]⟩
nonrec def pO(tp:Int):Op:=⟨3,1,tp,mT!⟩
nonrec def vO(tv:Int):Op:=⟨3,2,tv,.tup [et_,.tup b5!]⟩
def hs0{os:f_}{o:Op}{h:Int}(e:sK_)(n:o.h≠h):K24.hs qE! h=[]:=by rw[cE,fD,HP n,e];rfl
def hs1{os:f_}{o:Op}{h:Int}(e:sK_)(n:o.h=h):K24.hs qE! h=[o]:=by rw[cE,fD,HY n,e];rfl
variable{tu tp tv rh rn:Int}
def b2u(w:bM_)(hg:NameG g)(Y:c7_)(L:dV!):Hist dV_/\∀x∈os++dW!,x.tm<=58:=
 ⟨w.hist.snoc ⟨.inr lE_,by show 1<=tu;omega,by show tu<=1000;omega,by show(1:Int)<=1;decide,by show(1:Int)<=2000;decide,.undo hg⟩ (by show(1:Int)=((K24.hs os 11).length:Nat)+1;rw[w.no G!];rfl) λx J _=>by have:=(iT!).2;show x.tm<tu;omega,λx J=>by
  obtain z|z:=HX.mp J
  .have:=(w.hs x z).2;omega
  .rw[aL_];exact L⟩
def b3l(w:bM_)(hg:NameG g)(Y:c7_)(L:dV!)(hr:mU_):Hist dX!/\(∀x∈os++dW!++[dW_],x.tm<=60)/\K24.hs dX! 3=[]:=by
 obtain⟨a,b⟩:=b2u w hg Y L;refine⟨a.snoc ⟨?_,by show(1:Int)<=60;decide,by show(60:Int)<=1000;decide,?_,?_,.redo hg⟩ ?_ λx J _=>?_,aG_,?_⟩
 .obtain⟨rfl,_⟩|⟨rfl,_⟩:=hr
  .exact .inr lE_
  .exact .inr (.inr lE_)
 .show 1<=rn;omega
 .show rn<=2000;omega
 .show rn=((K24.hs dV_ rh).length:Nat)+1;obtain⟨rfl,rfl⟩|⟨rfl,rfl⟩:=hr
  .rw[hs1 (w.no G!) rfl];rfl
  .rw[hs0 (w.no dD_) (by show(11:Int)≠12;decide)];rfl
 .have:=b x J;show x.tm<60;omega
 .obtain z|z:=HX.mp J
  .have:=b x z;omega
  .show"#G"
 .exact hs0 (hs0 (w.no (.inr fc_)) (by show(11:Int)≠3;decide)) (by show rh≠3;omega)
def a7f{S:f_}{o:Op}{B:Int}(hS:cr_)(hb:e2!)(hB:B<900)(hd:hJ!)(ho:o.h=3)(hn:o.n=((K24.hs S 3).length:Nat)+1)(hl:cW!)(h0:∀x∈S,x.tm<o.tm)(Y:1<=o.tm)(L:o.tm<=B+1):Hist gm_/\∀x∈S++[o],x.tm<=B+1:=by
 have:=tW S 3;refine⟨hS.snoc ⟨.inr (.inr (.inr (.inr (.inr ho)))),Y,v!,v!,v!,hd⟩ (by rw[ho];exact hn) λx J _=>h0 x J,aG_⟩;obtain z|z:=HX.mp J
 .have:=hb x z;omega
 .rw[aL_];exact L
abbrev ef(S:f_):List Op:=Jf jW! eg_
def c7a:D.str (Str.ofString "redo")≠.str "undo":=λz=>absurd k6! k!
def ef1(w:bM_)(hH:Hist dV_)(Y:c7_):ef dV_=(eY_).filter λo=>decide (o.nm≠g):=by
 have es:=mB hH.keys λx J=>by have:=(iT!).2;show x.tm<tu;omega
 show Jf (Gr .str (srt dV_) []) (srt dV_)=_;rw[es,kE,sV!,vQ _ wL,lH,tZ wL,IR];refine KU λo ho=>?_;by_cases c:o.nm=g
 .rw[c,cV];simp
 .rw[fp!];simp[c,w.pl.srt o ho,kget]
def ef2(w:bM_)(hH:Hist dX!)(Y:c7_)(L:dV!):ef dX!=srt os/\srt dX!=srt os++dW!++[dW_]/\Gr .str (srt dX!) []=As gy! g cx_:=by
 have n1:((dV_).map Op.key).Nodup:=by have:=hH.keys;rw[IU,IY]at this;exact this.1
 have es:=mB n1 λx J=>by have:=(iT!).2;show x.tm<tu;omega
 have yj:=mB hH.keys λx J=>by
  obtain z|z:=HX.mp J
  .have:=(w.hs x z).2;show x.tm<60;omega
  .rw[aL_];show tu<60;omega
 rw[es]at yj;have ew:Gr .str (srt dX!) []=As gy! g cx_:=by rw[yj,kE,kE,sV!,vQ (o:=uO tu g) _ wL,vQ (o:=dW_) _ b8c]
 refine⟨?_,yj,ew⟩;show Jf sX! (srt _)=_;rw[ew,yj,lH,lH,sX_,sY!,IR,IR];refine a5e w.pl.srt λo ho=>?_;by_cases c:o.nm=g
 .rw[c,cV];exact λz=>c7a (JJ z)
 .rw[fp!,fp!];exact λz=>by cases z
end
def b4u:∀(xs:w_) (a:Int),a<=xs.foldl max a/\∀x∈xs,x<=xs.foldl max a
 |[],a=>⟨KW _,λx h=>by cases h⟩
 |y::xs,a=>by
  obtain⟨Y,L⟩:=b4u xs (max a y);rw[OC];refine⟨v!,aG_⟩;obtain rfl|J:=HN.mp J
  .omega
  .exact L x J
def b4t{B:Int}:∀(xs:w_) (a:Int),a<=B->(∀x∈xs,x<=B)->xs.foldl max a<=B
 |[],a,h,_=>h
 |y::xs,a,h,g=>by
  rw[OC];have:=g y HQ;exact b4t xs _ a! λx J=>g x aU_
section
variable{t:Au}{M:Mh}{ρ:Ae}{yy:Int}{a ta wa:x7!}{out:D}{S:List Op}{kl:List Int}{ca:Int->Addr}
def d3g(hH:cr_){o:Op}(ho:o∈S):o.tm<=lt S o.h:=by
 have hm:o∈hs S o.h:=iE.mpr ma!;unfold lt;cases e:(eI_).getLast? with
 |none=>rw[List.getLast?_eq_none_iff.mp e]at hm;cases hm
 |some x=>
  obtain⟨l,hl⟩:=List.getLast?_eq_some_iff.mp e;have hp:=(hH.ch o.h).tim;rw[hl]at hm hp;obtain z|z:=HX.mp hm
  .exact Int.le_of_lt ((NO.mp hp).2.2 o z x d!)
  .show"#G"
def c7u{B:Int}(hB:0<=B)(hb:e2!)(h:Int):lt S h<=B:=by
 unfold lt;cases e:(eI!).getLast? with
 |none=>exact hB
 |some x=>exact hb x (iE.mp rA_).1
def a8l(f:Int->Int):∀l:List Int,Nl sZ!=some eH_
 |[]=>rfl
 |x::l=>by
  show(Nl sZ!).map (f x::·)=_;rw[a8l f l];rfl
def a3n{B:Int}(hA:X_)(hH:cr_)(hn:S≠[])(hl:cW!)(hB:0<=B)(hb:e2!):∃T,Ru (Jl t) [P!] M (.int T)/\iV_/\1<=T/\T<=B+1:=by
 obtain⟨ep,ht⟩:=hA.tk;have kn:kl≠[]:=λz=>by
  obtain⟨o,so,e⟩:=OY hn;have:o.h∈kl:=(hA.mem o.h).mpr λy=>by have hm:o∈hs S o.h:=iE.mpr ⟨by rw[e];exact HQ,rfl⟩;rw[y]at hm;cases hm
  rw[z]at this;cases this
 obtain⟨k0,kr,ek⟩:=OY kn;have f1:=b4u gA! gA_;have YD:∀x∈S,x.tm<=(gA!).foldl max gA_:=λx J=>by
  have Y:=d3g hH J;have:x.h∈kl:=(hA.mem x.h).mpr λy=>by have hm:x∈hs S x.h:=iE.mpr ⟨J,rfl⟩;rw[y]at hm;cases hm
  rw[ek]at this;obtain z|z:=HN.mp this
  .rw[z]at Y;have:=f1.1;omega
  .have:=f1.2 _ (IB (f:=lt S) z);omega
 refine⟨1+(gA!).foldl max gA_,ew_,λx J=>by have:=YD x J;omega,?_,?_⟩
 .refine j_;have hc:Pu tu_ [t_] M (.lst (kl.map λh=>.int lI!)):=λK hK=>by
   unfold Bf Iw;refine eO bt_ hA.ob hF2 _ ?_;rw[cM ht];have X':lB_<64:=LD hA.len hl;refine jE rJ_;refine cP cN! (λd=>match d with|.int h=>.int lI!|_=>.non) ht _ _ bG_ ?_
   .rw[JL]at hd;obtain⟨h,_,rfl⟩:=IH.mp hd;exact⟨[if!,t_],rfl,fF_,λ_ K hK=>cL H_ ie_ (qT hA) _ hK⟩
   .rw[fG!,JL,JL];exact hK
  refine dD (eF lH_ (a0k hc (d:=.int ((gA!).foldl max gA_)) ?_) rfl) hK;show(Nl (kl.map λh=>D.int lI!)).bind _=_;rw[a8l,ek];rfl
 .obtain⟨o,so,e⟩:=OY hn;have Y:=YD o s2_;have:=(hH.op o s2_).t1;omega
 .have:=b4t gA! gA_ (c7u hB hb k0) λx J=>by obtain⟨h,_,rfl⟩:=IH.mp J;exact c7u hB hb h
  omega
def c3k{g:WF}{f1:WE}{K:s_}(Y:m4_)(k:g [x] M K):Ai 1 g qM! ρ M K:=by unfold Ai Ab Af;exact Y _ fU!
def jB{g:WF}{f1 f2:WE}{K:s_}(Y:m4_)(L:Pu f2 ρ M y)(k:g [x,y] M K):Ai 2 g Bv_ ρ M K:=by unfold Ai Ab Af;exact Y _ (L _ fU!)
def sI{f:WE}{q:WS}{R:j!}(h:xh!):Ah (Bo f) q ρ M R:=h
def mD{i:Nat}{f:WE}{q:WS}{R:j!}(h:f ρ M λd M1=>q cf! M1 R):Ah (Am i f) q ρ M R:=h
def b4l{B:Int}{R:s_}(hA:X_)(hH:cr_)(hn:S≠[])(hl:f1!<63)(hB:0<=B)(hb:e2!)
  (hR:∀M' bn bo T,iV_->1<=T->T<=B+1->Bm t M' yy a ta wa .non (S++[⟨yy,gB_+1,T,d⟩]) bn bo->Mv M dF_ M' dG!->R m5! M'):Tg t [P!,d] M R:=by
 obtain⟨T,hT,t1,t2,t3⟩:=a3n hA hH hn a! hB hb;refine j_;refine fS (a3b s8_ (eF (eK bt_ qT_ s8_ (wB hA)) lH_ (d:=.int (gB_+1)) rfl)) ?_;have hv:Pu tw! [t_,some d,some m5!] M (Op.mk yy (gB_+1) T d).v:=eF tb! (a3b (iU H_ hT) (aP (d:=d) rfl)) rfl;refine sI (jB H_ hv (a2c hA a! λM' bn bo cz mv=>?_));exact dD tb! (hR M' bn bo T t1 t2 t3 cz mv)
def c4m{B:Int}{rl:bo!}{R:s_}(h:al!)(hA:X_)(hH:cr_)(hn:S≠[])(hl:f1!<63)(hB:0<=B)(hb:e2!)
  (hR:∀M' bn bo T,iV_->1<=T->T<=B+1->Bm t M' yy a ta wa .non (S++[⟨yy,gB_+1,T,mT!⟩]) bn bo->Mv M dF_ M' dG!->R m5! M'):Wb t [P!,fx!,.non] M R:=by
 refine j_;refine sI (jB H_ te! (b2q h (x:=fx!) (k:=mK_) rfl dD_ _ ?_));unfold Az;exact jB H_ (aP (d:=mT!) rfl) (b4l hA hH hn hl hB hb hR)
def a5y{p:Op}(hA:X_)(hp:hs S yy=[p])(hd:DG p.d)(hu:Et p.d=none):Ru (Kr t) [P!,if_] M m7!:=λK hK=>by
 show"!c";refine j_;show Az tu! [t_,some ly_] M _;have hk:yy∈kl:=(hA.mem yy).mpr ih!;unfold Az Bf Bw;refine qD (d:=.fn (ca yy)) f2_ (aP (d:=if_) rfl) qS_ ht (k:=some (.inl (.inl yy))) rfl (by rw[gA,aP!];rfl) _ ?_;show(match M (ca yy)with|some (.lst xs)=>_|_=>False);have hc:=hA.cl yy hk;rw[hp]at hc;rw[hc];refine mx_;refine cP cN! (λ_=>p.nm) hc _ _ tg! ?_
 .have e:d=p.v:=by simpa using j3
  subst e;refine⟨iY_,rfl,ew_,dw_⟩
  .have:Ct tt_ iY_=some true:=by
    have Y:f1 At aN! iY_=some Q!:=by rw[c2g (b2o (f:=Aa 0) (d:=p.v) rfl),b8d hd,hu];rfl
    unfold Ct fT;rw[Y];rfl
   exact a0l this _ hK
  .exact aP (ρ:=iY_) (f:=Dp n! Aq by!) (d:=p.nm) (a0e p) _ hK
 .exact hK
def c3r{B:Int}{p:Op}{R:s_}(hA:X_)(hH:cr_)(hn:S≠[])(hl:f1!<63)(hB:0<=B)(hb:e2!)(hp:hs S yy=[p])(hu:Et p.d=none)(hk:¬Undn jW! p)
  (hR:∀M' bn bo T d,iV_->1<=T->T<=B+1->Bm t M' yy a ta wa .non (S++[⟨yy,2,T,ti!⟩]) bn bo->Mv M dF_ M' dG!->R d M'):Tf t [P!] M R:=by
 have pS:p∈S:=(iE (h:=yy)).mp ih! |>.1;have hd:=(hH.op p pS).dg;refine j_;refine mD ?_;refine c3k (iU H_ (rZ hA hH a!)) ?_;have dt:(eg_).Perm S:=bP S;refine a0b ((dt.map _).nodup_iff.mpr hH.keys) (by rw[dt.length_eq];omega) (λo ho=>(hH.op o (dt.mem_iff.mp ho)).dg) λq M1 ep kq hq hM1 pe fr=>?_;have ik:=hA.keep fr;have sv:kget kq p.nm=none:=PN λz=>by
  obtain⟨x,J,e,mj⟩:=(pe p.nm).mp z;rw[a6e hH.keys]at mj;exact hk ⟨hu,by rw[<-e];exact mj.2⟩
 have hc:Pu ty_ [t_,aV_,none] M1 m7!:=λK hK=>by
  unfold Bf Bw;refine cL H_ (eO bt_ ik.ob hF1) (a5y ik hp hd hu) _ ?_;refine mx_;refine cP cN! id trivial _ _ tg! ?_
  .have e:d=p.nm:=by simpa using j3
   subst e;refine⟨[some p.nm,aV_],rfl,ew_,λ_ K hK=>aP (f:=Aa 0) (d:=p.nm) rfl _ hK⟩;refine jC (b:=true) (eF (aP (f:=Aa 0) (d:=p.nm) rfl) (aP (f:=Aa 1) (d:=.fn q) rfl) ?_) _ hK;rw[b4s hM1 (k:=some (.inr [.inl p.h,.inl p.n])) rfl,sv];rfl
  .exact hK
 refine fS hc ?_;refine fN (ρ:=[t_,aV_,some m7!]) (a0l (b:=false) (by show((some (D.bl ((1:Int)==0))).bind Va)=_;rfl)) ?_;unfold Az;refine jB H_ (aP (d:=ti!) rfl) (b4l ik hH hn hl hB hb λM' bn bo T t1 t2 t3 cz mv=>?_);rw[hp]at cz;exact hR M' bn bo T _ t1 t2 t3 cz rF!
end
section
variable{os:List Op}{g:D}{tu tp tv rh rn:Int}
abbrev s2(os:f_)(tu rh rn:Int)(g:D):List Op:=os++dW!++[dW_]
def d1s(w:bM_)(hH:Hist m8_)(Y:c7_)(L:dV!)(h3:tl!)(hg:g≠.tup b5!):
  srt m8_=srt os++dW!++[dW_]++c9_/\Gr .str m9! []=As gy! g cx_/\¬Undn (Gr .str m9! []) (pO tp):=by
 have iu:Hist (s2 os tu rh rn g):=hH.pre;obtain⟨_,e2,e3⟩:=ef2 w iu Y L;have es:=mB (S:=s2 os tu rh rn g) (u:=pO tp) hH.keys h3;have ew:Gr .str m9! []=As gy! g cx_:=by
  rw[es,kE,e3];exact wJ _ _ λo ho=>by rw[HZ.mp ho];rfl
 refine⟨by rw[es,e2],ew,cl_⟩;have:=z.2;rw[ew]at this;have e:(pO tp).nm=.tup b5!:=rfl;rw[e,cW hg,cW hg]at this;cases this
def ef4(w:bM_)(hH:Hist tm_)(Y:c7_)(L:dV!)(h3:tl!)(h4:∀x∈s2 os tu rh rn g++c9_,x.tm<tv)(hg:g≠.tup b5!):ef tm_=srt os:=by
 obtain⟨e1,e2,_⟩:=d1s w hH.pre Y L h3 hg;have es:=mB (S:=s2 os tu rh rn g++c9_) (u:=vO tv) hH.keys h4;show Jf sX! (srt _)=_;rw[es,kE,e2,vQ (o:=vO tv) _ wL,e1,lH,lH,lH,lH,sX_,sY!,tZ (o:=vO tv) wL,IR,IR,IR];have hp:Jf (As (As gy! g cx_) (.tup b5!) bk_) c9_=[]:=by
  unfold Jf;rw[JQ]
  .rfl
  .rw[JA];rintro⟨_,z⟩;exact z (cV _ _ _)
 rw[hp,IR];refine a5e w.pl.srt λo ho=>?_;have hn:D.tup b5!≠o.nm:=λz=>by
  show"!9";have:=(w.hs o mN!).1;omega
 rw[cW hn];by_cases c:o.nm=g
 .rw[c,cV];exact λz=>c7a (JJ z)
 .rw[fp!,fp!];exact λz=>by cases z
end
section
variable{t:Au}{M:Mh}{ρ:Ae}
def c7i{ft:WT}{fa fb:WE}{b:Bool}(h:Uz ft ρ M b)(ha:b=true->Pu fa ρ M d)(hb:b=false->Pu fb ρ M d):Pu (Wz ft fa fb) ρ M d:=λK hK=>by
 unfold Wz;refine h _ ?_;cases b with
 |true=>exact ha rfl K hK
 |false=>exact hb rfl K hK
def sl3(o:Op):Bj o.v none (some 3)=some to!:=by simp[Op.v,Bj,Dk,HT.sIx]
def d1t{o:Op}{ρ:Ae}(h:Aa 0 ρ=some o.v):f2 Ao ve_ vf_ ρ=some (Op.mk o.h o.n o.tm AV).v:=by
 have Y:Dp n! Aq (Ap al_) ρ=some to!:=by
  unfold Dp;rw[h];exact sl3 o
 exact dX Y rfl rfl
def d3f{nl:Nat}{ix:l!}{i:Nat}{fe:WE}{os:f_}{f:gu!}(hi:Aa i ρ=some ia!)(hl:ap_<64)(hb:∀o∈os,∃ai,Bd 0 o.v hc!=some ai/\Pu fe ai M (f o).v):Pu (Bf nl ix (Ia (Ep (Aa i))) E_ bk! fe) ρ M (.lst ((ib!).map Op.v)):=λK hK=>by
 unfold Bf Ia;rw[wA hi];refine qA_;have go:∀(l:f_) (R:kT_),(∀o∈l,o∈os)->R ((eH_).map Op.v) M->Ro E_ ae_ bk! fe hc! pZ! M R:=λl=>by
  induction l with
  |nil=>exact λR _ hR=>⟨trivial,hR⟩
  |cons o l ih=>
   intro R hl hR;obtain⟨ai,e1,e2⟩:=hb o (hl o HQ);refine aJ!;rw[e1];refine jE ?_;show(if true=true then _ else _);rw[k_];exact e2 _ (ih _ (λx J=>hl x aU_) hR)
 exact go os _ (λ_ h=>h) hK
def c8z{os:f_}(hd:∀o∈os,DG o.d)(hl:ap_<64)(hi:ts!)(hc:Tj 1 [] ρ=cK_):
  Pu nQ_ ρ M (.lst ((os.map nu).map Op.v)):=
 d3f hi hl λo ho=>⟨[U_],by rw[hc];rfl,by
  have h3:∀k r,o.d=.tup ci_->f2 Ak iE_ C! [U_]=some U!:=λk r e=>dX (dX rfl rfl (c0g o)) rfl (by rw[e];simp[Ak,Dc,Ea]);obtain⟨k,a,e,hk,_,hu⟩|⟨k,r,e,k1,k2,hu⟩:=rV (hd o ho)
  .have en:nu o=⟨o.h,o.n,o.tm,AV⟩:=by unfold nu;rw[HP (by rw[hu];simp)]
   rw[en];refine c7i (b:=false) (jC (eF (aP (h3 k [a] e)) tt! ?_)) l1_ λ_=>aP (d1t rfl);rw[rG];obtain rfl|rfl:=hk
   .rw[A1_];rfl
   .rw[A2!,Bool.or_true];rfl
  .have en:nu o=o:=by unfold nu;rw[HY hu]
   rw[en];refine c7i (b:=true) (jC (eF (aP (h3 k r e)) tt! ?_)) (λ_=>aP rfl) λz=>by cases z
   rw[rG,RO,k1,p7_,k2];rfl⟩
def c7c(o:Op):Sd o.nm:=.inr (.inr (.inr ⟨[o.h,o.n],rfl⟩))
def d3c(o p:Op):Eg o.nm p.nm=some (.bl (!decide (o.nm=p.nm))):=by
 have h:=lF (c7c o) (c7c p);unfold Ba at h;unfold Eg;split at h
 .rename_i c;rw[HY c,D.bl.inj (JJ h)]
 .cases h
def c8y{os:f_}{x:Op}(hl:ap_<64)(hi:ts!)(hc:Tj 1 [3] ρ=[none,dz_]):
  Pu nR_ ρ M (.lst nb_):=
 d3f hi hl λo ho=>⟨i3!,by rw[hc];rfl,by
  have Y:Dp n! Aq by! i3!=some o.nm:=a0e o;have L:fT vj_ i3!=some (!decide (o.nm=x.nm)):=by
   unfold fT;rw[dX Y rfl (d3c o x)];rfl
  refine aP ?_;unfold Lb;rw[L];unfold rp;by_cases c:o.nm=x.nm
  .rw[HY c,IV c];exact d1t (o:=o) (ρ:=i3!) rfl
  .rw[HP c,IF c];rfl⟩
def FH(q1 q2:WS)(ρ:Ae)(R:j!)(d:D)(M:Mh):Prop:=match d with
 |.bl b=>(if !b then q1 ρ M R else q2 ρ M R)
 |_=>False
def FI(fc:e!)(fb:WE)(q1 q2:WS)(ρ:Ae)(R:j!)(x:D)(M:Mh):Prop:=wl fc ρ M λy M2=>match Pt M2 x y with
 |some d=>(match d with|.bl b=>(if b then(if true then q1 ρ M2 R else q2 ρ M2 R)else fb ρ M2 tx!)|_=>False)
 |none=>False
def c0e{fa fb:WE}{fc:e!}{q1 q2:WS}{R:j!}(h:fa ρ M (FI fc fb q1 q2 ρ R)):Av (Uw (wT (w2 Pt fa (wl fc))) (Ip (wT fb))) q1 q2 ρ M R:=h
def c0f{fb:WE}{fc:e!}{q1 q2:WS}{R:j!}(hc:fc ρ=some aN_)(k:fb ρ M tx!):FI fc fb q1 q2 ρ R ty! M:=by unfold FI;rw[dI hc,show Pt M ty! aN_=some Q! from iJ rfl cj_];exact k
def c7l{q1 q2:WS}{R:j!}(k:du!):FH q1 q2 ρ R z_ M:=k
def FO(fc:e!)(fb:WE)(ρ:Ae)(R:j!)(x:D)(M:Mh):Prop:=wl fc ρ M λy M2=>match Yd false x y with
 |some d=>(match d with|.bl b=>(if b then fb ρ M2 (λd M=>R a0_ M)else R (.rt Q!) M2)|_=>False)
 |none=>False
def d1g{fa fb:WE}{fc:e!}{R:j!}(h:fa ρ M (FO fc fb ρ R)):Az (Jw (w2 nM! fa (wl fc)) fb) ρ M R:=h
def d1h{fb:WE}{fc:e!}{R:j!}(hc:fc ρ=some Q!)(k:fb ρ M λd M=>R a0_ M):FO fc fb ρ R Q! M:=by unfold FO;rw[dI hc];exact k
def b2j{g:WF}{f1 f2 f3:WE}{x:D}{K:s_}(Y:m4_)(L:Pu f2 ρ M y)(h3:Pu f3 ρ M z)(k:g [x,y,z] M K):Ai 3 g Bw_ ρ M K:=by unfold Ai Ab Af;exact Y _ (L _ (h3 _ fU!))
nonrec def lD(t:Au):WS:=(Ah vs_
 (Ah vt!
 vu!))
nonrec def lC(t:Au):WS:=(Ah (Am 9 jt!)
 (Ah vr!
 (Ah vs!
 (lD t))))
variable{a ta wa c tc wc:x7!}{os:List Op}{x:Op}{tu rh rn:Int}{kl kk:List Int}{ca cc:Int->Addr}{s q2 q4 q6 q7 q8:D}
def d3h{rl rc:bo!}{R:j!}(w:bM_)(J:x∈os)(Y:c7_)(L:dV!)(hr:mU_)(sj:Run W0 (ef os) W)(hw:cM!)(au:gn_)
  (hA:Bm t M 3 a ta wa N_ tz_ kl ca)(yk:al!)(j4:OS t M c oc rc W)(dj:∀b,Ow a ta wa kl ca b->rc b=.oth)(cA:¬Ow a ta wa kl ca c)(hR:nc!):
  lD t [ch_,f0!,gE!,dz_,some q4,t_,some q6,some q7,some q8,some (.fn c),none] M R:=by
 have xg:NameG x.nm:=tA_;have x3:x.nm≠.tup b5!:=λz=>by
  show"!9";have:=(iT!).1;omega
 obtain⟨iu,vn,e3⟩:=b3l w xg Y L hr;have ln:=w.len;have l2:(tz_).length<62:=by simp only[s2,IG,IE,LP];omega
 have n2:s2 os tu rh rn x.nm≠[]:=by simp[s2]
 refine mD (b2j H_ te! mi! (c4m (B:=60) yk hA iu n2 a! b_ vn λM1 kl1 ca1 tp p1 p2 p3 ik mv1=>?_));have hA1':Bm t M1 3 a ta wa .non tC! kl1 ca1:=by rw[e3]at ik;exact ik
 obtain⟨TY,YE⟩:=a7f (o:=pO tp) iu vn b_ (.put G! G!) rfl (by show(1:Int)=_;rw[e3];rfl) (RK l2 b_) p1 p2 p3;obtain⟨_,_,un⟩:=d1s w TY Y L p1 x3;have l3:(tC!).length<63:=by rw[IG];simp;omega
 refine sI (c3k H_ (c3r (B:=61) (p:=pO tp) hA1' TY d! l3 b_ YE (hs1 e3 rfl) rfl un λM2 yh yi tv d v1 v2 v3 gq se=>?_));have hA2':Bm t M2 3 a ta wa .non nd! yh yi:=gq;obtain⟨YF,_⟩:=a7f (o:=vO tv) TY YE b_ (.undo ⟨3,1,rfl,R!,R!,R!,R!⟩) rfl (by show(2:Int)=_;rw[hs1 e3 rfl];rfl) (RK l3 b_) v1 v2 v3;have e4:=ef4 w YF Y L p1 v1 x3;have mv:=mv1.trans se;have l4:(nd!).length<64:=by rw[IG];simp at l3 ⊢;omega
 have TZ:OS t M2 c oc rc W:=j4.kp (mv.k c tD_ cA) λb hb=>mv.k b (j4.out.live hb) λz=>hb (dj b z);have ir:¬Ow a ta wa yh yi c:=λz=>(mv.n c z).elim cA tD_;have hrun4:Run W0 (Jf tE! nd_) W:=by
  have e0:=b1z w.pl;rw[show Jf tE! nd_=srt os from e4,<-e0];exact sj
 refine d1g (jB H_ (aP (d:=.tup b5!) (by rw[e3];rfl)) (c3t (W:=W) (x:=.tup b5!) (k:=some (.inr [.inl 3,.inl 1])) (Q:=λM3=>∀b,M2 b≠none->b≠a->M3 b=M2 b) (λK hK=>a3e hA2' YF l4 hrun4 λM3 o3 rl3 fq _ k3 _=>hK M3 o3 rl3 fq k3) rfl λM3 _ _ _ k3=>?_));have sv:¬Ew W (.tup b5!):=λz=>by
  obtain z|z|z:=z
  .exact c7o sj (λo ho e=>by have:=(mR_).1;omega) z
  .cases z
  .cases z
 rw[IF sv];refine d1h rfl ?_;have hoc3:OS t M3 c oc rc W:=TZ.kp (k3 c (by obtain⟨_,_,_,z⟩:=TZ.hob;rw[z];simp) λz=>ir ca_) λb hb=>k3 b (TZ.out.live hb) λz=>hb (by rw[z];exact dj a G!);exact jB nf! i4_ (b7s hoc3 w.hist a! sj hw au hR)
end
section
variable{t:Au}{M:Mh}{ρ:Ae}{a ta wa:x7!}{os:List Op}{x:Op}{tu rh rn:Int}{kl:List Int}{ca:Int->Addr}{s q2 q4 q6 q7:D}
def Wd.nm(w:bM_)(J:x∈os):NameG x.nm:=tA_
def d3i{R:j!}(nd:t.nd)(w:bM_)(J:x∈os)(Y:c7_)(L:dV!)(hr:mU_)(hA:Bm t M 3 a ta wa out (os++[uO tu x.nm]) kl ca)(hR:nc!):
  lC t [ch_,f0!,gE!,dz_,some q4,t_,some q6,some q7,tF_,none,none] M R:=by
 have ln:=w.len;have on:os≠[]:=λz=>by rw[z]at J;cases J
 obtain⟨iu,_,_⟩:=b3l w (w.nm J) Y L hr;refine mD (tL λc tc wc M1 hc hC fr new=>?_);have ik:=hA.keep fr;refine sI (jB nf! i4_ (pW nd hC (S:=[]) (ms:=os) w.hist tG_ on am! λM2 kk cc hC2 se=>?_));obtain⟨gq,dj2⟩:=ik.mv se λb hb z=>hA.lv hb (new b z)
 unfold Ah;refine c0e (jB H_ (aP (d:=.lst ((nf_).map Op.v)) rfl) (pW nd gq (ms:=nf_) iu (λo ho=>by rw[HZ.mp ho];show rh≠3;omega) d! am! λM3 kl3 ca3 sh mv3=>?_));obtain⟨hC3,YG⟩:=hC2.mv mv3 λb hb z=>dj2 b z hb
 have e0:=b1z w.pl;refine c0f rfl (b2j H_ nf! i4_ (a2d (ops:=os) sh hC3 (λb h z=>YG b z h) iu w.hist w.hist am! am! a! (λW h=>?_) (λW h=>h) λM4 o oc rl rc W pre sj hw au T' hC4 yk j4 fr4 r4=>?_))
 .rw[show Jf (Gr .str tI_ []) tI_=srt os from(ef2 w iu Y L).1,<-e0];exact h
 .exact c7l (d3h w J Y L hr sj hw au T' yk j4 (λb hb=>(r4 b (sh.lv hb)).2) (λz=>YG c G! z) hR)
nonrec def lB(t:Au):WS:=(Ah (Am 5 jt!)
 (Ah vk_
 (Ah vl_
 (Ah vm_
 (Ah vn_
 (Ah vp_
 (Ah vq_
 (Ah nT_
 (lC t)))))))))
def d2d{i:Nat}{f:e!}{R:j!}(h:cf_)(k:R qh! M):Am i (wl f) ρ M R:=by unfold Am;rw[dI h];exact k
def d3j{ns:w_}{R:j!}(nd:t.nd)(w:bM_)(J:x∈os)(hR:nc!):
  lB t [aa_,f0!,gE!,dz_,nh!,none,none,none,none,none,none] M R:=by
 have ln:=w.len;have on:os≠[]:=λz=>by rw[z]at J;cases J
 have UA:Hist (os.map i2_):=c1g.hist w.hist λo ho=>by unfold rp;split;exact d3w;exact(w.hist.op o ho).dg
 obtain⟨m,em,m0,_⟩:=iD ns (k:=59);obtain⟨m',UB,_,_⟩:=iD ns (k:=58);have t1:0<=m%9:=KR _ b_;have t2:m%9<9:=KD _ b_;obtain⟨UC,_⟩:=b2u (tu:=50+m%9) w (w.nm J) a! a!;refine mD (tL λa ta wa M1 ha hA fr new=>?_);refine sI (jB H_ i4_ (pW nd hA (S:=[]) (ms:=os) w.hist tG_ on am! λM2 kl ca gq se=>?_));refine mD (tL λb tb wb M3 hb hB v8 new3=>?_);have sh:=gq.keep v8;refine sI (jB gr_ tL! (pW nd hB (S:=[]) (ms:=os.map i2_) UA (λo ho=>by obtain⟨y,hy,rfl⟩:=IH.mp ho;rw[c1g.h];have:=(w.hs y hy).1;omega) (by simpa using on) am! λM4 kk cb hB4 mv4=>?_));obtain⟨T',dj4⟩:=sh.mv mv4 λc hc z=>gq.lv hc (new3 c z)
 have md:∀{j k v:Int} {ρ:Ae},Aa 0 ρ=some (scr ns)->Bv [ds_,dS_]=some kE!->0<k->f2 Bz (f1 Bv (Ac n! (Ac (fC cH!) Ag))) (fC iq_) ρ=some (.int (v%k)):=λh0 e hk=>dX (lR (bN h0 hB_) e) rfl (tK hk);refine fS (aP (d:=(nj!).v) (oW (bN rfl (bN rfl (bN (dX rfl (md rfl em b_) rfl) tO!))) rfl)) ?_;refine fS (aP (d:=(tR_).v) (oW (bN (dX rfl (md rfl UB b_) rfl) tQ_) rfl)) ?_;have fin:∀rh rn:Int,sN!\/sO_->Ah nT_ (lC t) [aa_,f0!,gE!,dz_,nh!,t_,eW!,some (nj!).v,tF_,none,none] M4 R:=λrh rn hr=>by
  unfold Ah;refine c0e (jB H_ (aP (d:=.lst ((nk_).map Op.v)) rfl) (pW nd T' (ms:=nk_) UC (λo ho=>by rw[HZ.mp ho];show(11:Int)≠3;decide) d! am! λM5 kl5 ca5 hA5 mv5=>?_));obtain⟨hB5,dj5⟩:=hB4.mv mv5 λc hc z=>dj4 c z hc
  refine c0f rfl (b2j H_ gr_ tL! (a2d (ops:=os.map i2_) hA5 hB5 (λc h z=>dj5 c z h) UC UA UA am! am! am! (λW h=>?_) (λW h=>h) λM6 o ob rl rb W pre sj hw au hA6 hB6 yk hob fr6 r6=>?_))
  .show Run W0 (Jf tV! nm!) W;rw[show Jf tV! nm!=(eY_).filter λo=>decide (o.nm≠x.nm)from ef1 w UC a!];rw[b1z (d2j w.pl),c1g.srt]at h;refine b0o (λo ho z=>?_) l1_ h;show"!9";have:=(w.hs o mN!).1;omega
  .exact c7l (d3i nd w J a! a! hr hA6 hR)
 have ei:f2 Ak bj_ C! tX_=some (.int (11+m'%2)):=dX rfl rfl (sS _);have ec:fT vq! tX_=some ((11+m'%2:Int)==12):=by
  unfold fT;rw[dX ei rfl (wC _ _)];rfl
 unfold Ah;have hm:m'%2=0\/m'%2=1:=by omega
 obtain z|z:=hm
 .rw[z]at ec ⊢;exact iY ec (fin 11 2 (.inl bi_))
 .rw[z]at ec ⊢;refine ifT ec (d2d (d:=(rO 12 1 x.nm).v) (oW (bN rfl tQ_) rfl) ?_);exact fin 12 1 (.inr bi_)
end
section
variable{t:Au}
def b8x:Xn t=Ah ve!
 (Ah (Am 1 nQ_)
 (Ah vh!
 (Ah vi_
 (Ah (Am 4 nR_)
 (lB t))))):=rfl
def c1j{ns:w_}(nd:t.nd):Zt t lX! M0 (λd _=>d=.bl true):=by
 obtain⟨m,em,_,_⟩:=iD ns (k:=60);obtain⟨m',UB,_,_⟩:=iD ns (k:=61);have hN0:0<=m%8:=KR _ b_;have hN1:m%8<8:=KD _ b_;obtain⟨N,hN⟩:∃N:Nat,(N:Int)=1+m%8:=⟨(1+m%8).toNat,v!⟩;obtain⟨o0,ew,hl,hO,hb⟩:=b5n ns 0 N a!;have w:Wd nn!:=⟨c1h.hist hO λo ho=>by unfold nu;split;exact(mA!).dg;exact d3w,λx J=>by obtain⟨y,hy,rfl⟩:=IH.mp J;rw[c1h.h,c1h.t];have:=hb y hy;exact⟨this.1,by have:=this.2;omega⟩,d2k,by rw[IK];omega⟩;have l1:(nn!).length=N:=by rw[IK];exact hl
 have a0:0<=m'%(N:Int):=KR _ a!;have a1:m'%(N:Int)<N:=KD _ a!;obtain⟨x,J⟩:∃x,(o0.map nu)[(m'%(N:Int)).toNat]?=some x:=⟨_,II t0_⟩;have xm:x∈o0.map nu:=NP J;refine j_;rw[b8x];refine fS (d:=.lst (o0.map Op.v)) (aP (lR (bN rfl (bN rfl (bN (dX rfl (dX (lR lt! em) rfl (tK b_)) rfl) rfl))) (by rw[hN]at ew;exact ew))) ?_;refine fS (c8z mB! a! rfl rfl) ?_;refine fS (d:=.int ja!) (aP (dX (lR lt! UB) (lR (ds:=[.lst gJ_]) hB_ (d:=.int N) (by show some (D.int ((gJ_).length:Nat))=_;rw[IK,l1])) (tK a!))) ?_;refine fS (d:=x.nm) (aP ?_) ?_
 .have Y:f2 Ak v_ x! t5!=some x.v:=dX rfl rfl (by
   show Dc gJ_ ja!=_;unfold Dc Ea;rw[HY a0,HY (by rw[IK,l1];exact a1)];show gJ_[(ja!).toNat]?=_;rw[JC,J];rfl)
  show Dp vi! Aq by! t5!=_;unfold Dp;rw[Y];exact a0e x
 refine fS (c8y (x:=x) t0_ rfl rfl) ?_;exact d3j nd w xm λ_=>rfl
end
end K24
namespace K24
open PySem L2 DL
section
variable{P:yp!}{w:xV!}{K:yS!}{mg:Str->Option Value}{base:Heap}{t:Au}
def mL(T:g_):Ok P w K mg base 1 "is_whole" p! (Fw):=
 eL (hx:=[]) (k:=0) T.C8 a6i (λhr=>(bE (bW (lK (lJ c5v rfl T.S8 rfl T.S7 dC d1d F!) (lK (d0s (lJ c1w rfl T.S8 rfl T.R9 dC c6x F!)) (iG (fX b4b b4c (cH c3i d0z rfl T.R7 d1e bN_) (aY c9b c9g aD aD) p_)))))))
def iW(T:g_):Ok P w K mg base 2 "is_from_one" p! (Dx):=
 eL (hx:=[]) (k:=1) T.D1 wU (λhr=>(bE (bW (lK t8! (iG (fX d2r d2t F! aD p_))))))
def mM(T:g_):Ok P w K mg base 2 "is_below" gb_ (Hi):=
 eL (hx:=[]) (k:=1) T.C9 a6k (λhr=>(bE (bW (lK t8! (iG (a9d mJ mK b4b b4c aD F! Z!))))))
def iV(T:g_):Ok P w K mg base 3 "is_name" p! (Ed):=
 eL (hx:=[]) (k:=2) T.D2 b0j (λhr=>(bC nn_ (bE (bW (lK (aT (mM T) a_ rfl (aE a8! (aE (iA T.T8 rfl) aJ)) aG!) (iG uc_))))))
def lP(T:g_):Ok P w K mg base 4 "is_sign_name" p! (Ec):=
 eL (hx:=[]) (k:=3) T.D3 vI (λhr=>(bC nn_ (bE (bW (lK ue! (iG (aT (mM T) a_ rfl (aE a8! (aE np! aJ)) aG!)))))))
def b1f(T:g_):Ok P w K mg base 4 "is_item" p! (Hh):=
 eL (hx:=[]) (k:=3) T.D4 b0k (λhr=>(bE (bW (a1r ug! (a1r ug_ (iG ug_))))))
def zK(T:g_):Ok P w K mg base 4 "is_sibling" p! (Fd):=
 eL (hx:=[]) (k:=3) T.D5 zG (λhr=>(bE (bW (a1r uh! (iG ug!)))))
def a3i(T:g_):Ok P w K mg base 5 "is_behind" p! (Gc):=
 eL (hx:=[]) (k:=4) T.D6 a2t (λhr=>(bE (bW (a1r uh! (iG (aT (lP T) a_ rfl bN_ az_))))))
def b1e(T:g_):Ok P w K mg base 1 "is_sign" dK! (Hf):=
 eL (hx:=[]) (k:=0) T.D7 b0h (λhr=>(bE (bW (lK (a9d mJ mK mJ mK aS F! aS) (iG (fX a0o a0q (cH c3g d0y rfl T.T2 d1b bN_) (iA T.U1 rfl) p_))))))
def b1d(T:g_):Ok P w K mg base 2 "is_text" p! (Kh):=
 eL (hx:=[]) (k:=1) T.D8 b0g (λhr=>(bC (hX (yS (a1q (gK (fJ (lJ a4x rfl T.S8 rfl T.T5 dC b2k F!))) (uB (gK (c2n mJ mK mJ mK aD gL! np!))))) e8! eC) (bE (bW (cH (yZ rfl) b2h rfl T.R8 b2l (aE (oE (NL:=dK!) (NF:=[]) (ix:=[]) rfl b_ k! (bL (sc:=Ad No) rfl k!) Cm.nil b_ rfl (d0o F!) (λ_ _ _ _ _=>aZ (i:=0) (show(dK!:List Str).Nodup by decide+kernel) rfl b!) W! gM_ (λ_ _ _ _ _=>(aT (b1e T) a_ rfl bN_ az_))) aJ))))))
def uM(T:g_):Ok P w K mg base 3 "is_place" p! (Dw):=
 eL (hx:=[]) (k:=2) T.D9 a6j (λhr=>(bE (bW (aT (mM T) a_ rfl (aE F! (aE (iA T.U0 rfl) aJ)) aG!))))
def iH{g:ai!}{ps:q!}{k:Nat}(h:Ok P w K mg base k x ps g)(hm:mg x=some bT_)(hp:V_=1)(hk:k<=5):∃fd ps,V_=1/\Fq P w K mg base Qf 5 ae fd ps kh!/\Fc K fd ps []/\W.keepIn K bT_=true:=by obtain⟨f',fd,Y,L,h3,h4⟩:=h;rw[hm]at h3;cases h3;exact⟨fd,ps,hp,Y.mono hk,L,h4⟩
def c6e(T:g_):Zw P w K mg base 5 1 (Ll t):=by
 intro ae g e;unfold Ll at e;show"!6"
 .show"!5";exact iH (b1f T) T.U3 rfl b_
 show"!6"
 .show"!5";exact iH (zK T) T.U4 rfl b_
 show"!6"
 .show"!5";exact iH (a3i T) T.U5 rfl b_
 show"!6"
 .show"!5";exact iH (b1d T) T.U6 rfl b_
 show"!6"
 .show"!5";exact iH (lP T) T.U7 rfl b_
 show"!6"
 .show"!5";exact iH (iW T) T.U8 rfl b_
 show"!6"
 .show"!5";exact iH (uM T) T.U9 rfl b_
 show"!6"
 .show"!5";exact iH (mL T) T.V0 rfl b_
 show"!6"
 .show"!5";exact iH (iV T) T.V2 rfl b_
 cases e
def iI(T:g_):Dt P w K mg base 1 t.B3 "have" gf_ gz_:=
 cJ (hx:=[]) (k:=0) T.V3 T.K8 a2y (λhr=>(aG (bA (xU cR c3d rfl T.S9 eG (aC uq! aI)))))
def pG(T:g_):Wq P w K mg base 1 "Hand" t.B3 gf! (Gd t):=
 a3l (hx:=[]) (k:=0) T.K7 b0m (λhr=>(aF (gH T.V3 T.W7 l_ u_) (aF (gH T.V3 T.W8 l_ fP) (aF (gH T.V3 T.W9 l_ (a3u aI)) ut_))))
def mP(T:g_):Dt P w K mg base 1 t.B4 "parent_of" J! (Fk t):=
 cJ (hx:=[]) (k:=0) T.V4 T.J3 mF (λhr=>(aG (bA nx_)))
def dL(T:g_):Dt P w K mg base 1 t.B4 "has_item" J! (Cj t):=
 cJ (hx:=[]) (k:=0) T.V4 T.G6 oI (λhr=>(aG (bA (jQ b7! eR u_ jf_ rfl))))
def sU(T:g_):Ok P w K mg base 1 "time_and_hand" bh! (Di):=
 eL (hx:=[]) (k:=0) T.E4 sJ (λhr=>(bE (bW uv_)))
def mN(T:g_):Ok P w K mg base 4 "in_order" a1_ (Dm):=
 eL (hx:=[]) (k:=3) T.E5 a6l (λhr=>(bE (bW (c2u (sU T) (Al.in1 (Al.in1 a_)) rfl rfl T.T4 F!))))
def nW(T:g_):Wq P w K mg base 1 "Row" t.B5 aW! (Hv t):=
 a3l (hx:=[]) (k:=0) T.E6 b6b (λhr=>(aF (gH T.V5 T.V6 l_ ux_) (aG (gH T.V5 T.V7 l_ ux_))))
def zL(T:g_):Wq P w K mg base 3 "Outline" t.B4 aW! (Ir t):=
 a3l (hx:=[]) (k:=2) T.F8 zH (λhr=>(aF (gH T.V4 T.V8 l_ (qP x_ (iK a9! cz! (iK a9! cz! xQ)))) (aF (gH T.V4 T.V9 l_ (qP x_ (iK a9! ji_ (iK a9! ji_ xQ)))) (aF (gH T.V4 T.W3 l_ fP) (aF (gH T.V4 T.W4 l_ fP) (aF (gH T.V4 T.W5 l_ fP) (aG (gH T.V4 T.W6 l_ fP))))))))
def fU(T:g_):Ok P w K mg base 1 "is_undo_or_redo" bh! (At):=
 eL (hx:=[]) (k:=0) T.J8 oY (λhr=>(bE (bW (a1r uB_ (iG uB_)))))
def zJ(T:g_):Jv P w K mg base 5 "last_words" a1_ (Gn):=
 bV (hx:=[]) (k:=4) T.J9 jK (λhr=>(aF (aX (i:=1) jK.nd rfl b! fP) (aF (eS JD rfl uD! (aZ (i:=2) jK.nd rfl b!) (dH 2) (aG (bY (fA (fJ (aT (fU T) a_ rfl de! az_))) (aG (dN x_ u_ jl! jl!)) bJ))) d5_)))
def a0r(T:g_):Jv P w K mg base 6 "undone" a1_ (Ke):=
 bV (hx:=[]) (k:=5) T.K0 jU (λhr=>(aF (aX (i:=1) jU.nd rfl b! (aO (zJ T) a_ rfl bO_)) (aF (aX (i:=2) jU.nd rfl b! fP) (aF (eS JD rfl (mS jN!) (aZ (i:=3) jU.nd rfl b!) df! (aF (aX (i:=4) jU.nd rfl b! nG!) (aG (bY (vN (pH (fA (gK (fJ (aT (fU T) a_ rfl jm! az_)))) (kO (cU aA! jm_ (c1b x_ u_ bD! dd!) a9! p_)))) (aG (dN x_ I_ bD! d6!)) bJ)))) e9_))))
def qL(T:g_):Dt P w K mg base 1 t.B5 "holds" J! (Hw t):=
 cJ (hx:=[]) (k:=0) T.V5 T.E7 a2v (λhr=>(aG (bA (xV uK_ (tM (jQ b7! eR u_ df_ rfl))))))
def gE(T:g_):Dt P w K mg base 2 t.B5 "put_behind" l7! (Cv t):=
 cJ (hx:=[]) (k:=1) T.V5 T.E8 gC (λhr=>(aF (aX (i:=3) gC.nd rfl b! (c1a (eZ (bU (qL T) a_ l_ fa_)) I_ cz!)) (aF (aX (i:=4) gC.nd rfl b! (bX M_ bH df_ aP_ r!)) (aF (dN x_ df_ aP_ u_) (aF (dN x_ jo! u_ aP_) (aF (dN x_ df_ u_ bD!) (aG (dN x_ jo! bD! u_))))))))
def gF(T:g_):Dt P w K mg base 1 t.B4 "has" J! gq!:=
 cJ (hx:=[]) (k:=0) T.V4 T.F9 wV (λhr=>(aG (bA (jQ b7! eR u_ fb! rfl))))
def xJ(T:g_):Dt P w K mg base 3 t.B4 "put" cZ_ (Jr t):=
 cJ (hx:=[]) (k:=2) T.V4 T.G8 mE (λhr=>(aF (aX (i:=4) mE.nd rfl b! (c1a (eZ uQ_) I_ a9!)) (aF (dN x_ nx! u_ bD!) (aF (cF (bU (gE T) a_ (bX M_ bH fb! bD! r!) nJ!)) (aF (dN x_ fb! u_ ji_) (aF (dN x_ jf_ u_ ji_) (aG (dN x_ uS_ u_ (c5j nJ_ (aB (iA T.U0 rfl)))))))))))
def vM(T:g_):Dt P w K mg base 1 t.B5 "take_out" J! (Jd t):=
 cJ (hx:=[]) (k:=0) T.V5 T.E9 iB (λhr=>(aF (aX (i:=2) iB.nd rfl b! (c0z x_ jo! u_ dd!)) (aF (aX (i:=3) iB.nd rfl b! (c0z x_ df_ u_ dd!)) (aF (dN x_ df_ I_ aP_) (aG (dN x_ jo! aP_ I_))))))
def mQ(T:g_):Dt P w K mg base 1 t.B4 "is_within" gc_ (Fm t):=
 cJ (hx:=[]) (k:=0) T.V4 T.G7 gX (λhr=>(aF (jY JD (fA (yS (yR (bM nT nX Z! dJ p_) (rQ uX_)))) (aG (aX (i:=1) gX.nd rfl b! nx_))) (aG (bA uK_))))
def oM(T:g_):Dt P w K mg base 2 t.B4 "can_move" gd! (Fx t):=
 cJ (hx:=[]) (k:=1) T.V4 T.G9 oJ (λhr=>(aG (bA (xV nK_ (xV uQ_ (tM (c9p (bU (mQ T) a_ l_ (aC I_ ar_)))))))))
def lQ(T:g_):Dt P w K mg base 3 t.B4 "move" cZ_ (Gp t):=
 cJ (hx:=[]) (k:=2) T.V4 T.H9 vK (λhr=>(aF (bY (kP (eZ (bU (oM T) a_ l_ (aC u_ fa_)))) (aG a3q) bJ) (aF (cF (bU (vM T) a_ (bX M_ bH fb! nx_ r!) ar_)) (aF (cF (bU (gE T) a_ (bX M_ bH fb! I_ r!) nJ!)) (aG (dN x_ nx! u_ I_))))))
def tE(T:g_):Dt P w K mg base 3 t.B4 "write" l8! (Ie t):=
 cJ (hx:=[]) (k:=2) T.V4 T.J0 dU (λhr=>(aF (bY (kP (eZ (bU (dL T) a_ l_ fa_))) (aG a3q) bJ) (aF (aX (i:=5) dU.nd rfl b! aP_) (aG (eS JD rfl (mS (c2t rfl T.S0 bC_)) (b9q rfl (qE (aZ (i:=6) dU.nd rfl b!) (qE (aZ (i:=7) dU.nd rfl b!) b3v))) (c2d 6 7) (aF (aX (i:=8) dU.nd rfl b! (aB (aY aQ bO Z! (cO (aE bD_ aJ))))) (aF (cF (bU (gE T) a_ (bX M_ bH jf_ I_ r!) (aC (aB bE!) nL_))) (aF (dN x_ (bF T.V4 T.W5 l_) (aB bE!) (aB dg!)) (aG (aX (i:=5) dU.nd rfl b! (aB bE!)))))))))))
def xK(T:g_):Dt P w K mg base 2 t.B4 "cut" l8_ (Js t):=
 cJ (hx:=[]) (k:=1) T.V4 T.J1 iQ (λhr=>(aF (bY (kP (eZ nK_)) (aG a3q) bJ) (aG (eS JD rfl (mS (b7o rfl T.T3 a9_ (aY aQ bO a9_ ba!))) (aZ (i:=4) iQ.nd rfl b!) (dH 4) (aF (aX (i:=5) iQ.nd rfl b! (aB (aY aQ bO (cX aq_ dQ dc_) (cO (aE bC_ aJ))))) (aG (bY (eZ (bU (qL T) a_ va! nL_)) (aG (dN x_ (bF T.V4 T.W6 l_) cz_ d6!)) bJ)))))))
def lW(T:g_):Dt P w K mg base 2 t.B4 "set_number" gd_ (Ez t):=
 cJ (hx:=[]) (k:=1) T.V4 T.J2 lU (λhr=>(aG (bY (eZ nK_) (aG (dN x_ vb_ I_ aP_)) bJ)))
def c5g(T:g_):Jv P w K mg base 4 "play" ge! (Nt t):=
 bV (hx:=[]) (k:=3) T.K4 c4e (λhr=>(aG (bY b8! (aG (cF (bU (xJ T) a_ l_ (aC u_ (aC bm! js_))))) (aG (bY b8! (aG (cF (bU (lQ T) a_ l_ gT!))) (aG (bY b8! (aG (cF (bU (lQ T) a_ l_ (aC bm! nP_)))) (aG (bY b8! (aG (cF (bU (tE T) a_ l_ (aC u_ gT!)))) (aG (bY b8! (aG (cF (bU (xK T) a_ l_ gT!))) (aG (bY b8! (aG (cF (bU (lW T) a_ l_ gT!))) bJ)))))))))))))
def b6r(T:g_):Jv P w K mg base 7 "played" a1_ (Kg t):=
 bV (hx:=[]) (k:=6) T.K6 jV (λhr=>(aF (aX (i:=1) jV.nd rfl b! (mT (zL T) a_ rfl)) (aF (aX (i:=2) jV.nd rfl b! (aO (a0r T) a_ rfl bO_)) (aF (eS JD rfl uD! (aZ (i:=3) jV.nd rfl b!) df! (aF (aX (i:=4) jV.nd rfl b! nG!) (aG (bY (cU fd_ eR bD! I_ rfl) (aG (cF (aO (c5g T) a_ rfl (aC u_ (aC bD! (aC gU_ aI)))))) bJ)))) d5_))))
def qJ(T:g_):Jv P w K mg base 5 "all_taken" af_ (Ey t):=
 bV (hx:=[]) (k:=4) T.K9 kK (λhr=>(aF (c0v (pP (i:=1) kK.nd rfl b! aJ)) (aF (eS JD rfl (a3s d5!) (aZ (i:=2) kK.nd rfl b!) (dH 2) (aG (b7b (i:=1) b_ (bX M_ bH d5! I_ r!)))) (xP (aG (bA (aB (aT (mN T) a_ rfl gV_ az_))))))))
def jP(T:g_):Jv P w K mg base 8 "outline_of" af_ (Cq t):=
 bV (hx:=[]) (k:=7) T.L0 zF (λhr=>(aF (bY (cU b1a (Im.m b1i) vo! cz! p_) (aG (gH T.V3 T.X0 l_ (aO (b6r T) a_ rfl vo_))) bJ) (aG (bA vo!))))
def eY(T:g_):Jv P w K mg base 9 "outline_with_item" Y! (Cr t):=
 bV (hx:=[]) (k:=8) T.N6 gW (λhr=>(aF (aX (i:=2) gW.nd rfl b! nS!) (aF (bY (kP (eZ (bU (dL T) a_ I_ ar_))) dg_ bJ) e9_)))
def sV(T:g_):Jv P w K mg base 10 "parent" Y! gS!:=
 bV (hx:=[]) (k:=9) T.N9 b5y (λhr=>(aG (bA (bU (mP T) a_ nS_ ar_))))
def oO(T:g_):Dt P w K mg base 1 t.B5 "listed" aW! (Iq t):=
 cJ (hx:=[]) (k:=0) T.V5 T.F7 gR (λhr=>(aF (c0v (pP (i:=1) gR.nd rfl b! aJ)) (aF (aX (i:=2) gR.nd rfl b! (bX M_ bH df_ cz! r!)) (aF (jY JD (fA (bM nT nX aq_ dJ p_)) (aF (c0v (uC (i:=1) b_ aq_)) (aG (aX (i:=2) gR.nd rfl b! (bX M_ bH df_ I_ r!))))) (xP d5_)))))
def kN(T:g_):Dt P w K mg base 2 t.B4 "children_of" J! (Dr t):=
 cJ (hx:=[]) (k:=1) T.V4 T.J4 kL (λhr=>(aG (bA (a7u (oO T) a_ (bX M_ bH fb! u_ r!)))))
def lO(T:g_):Jv P w K mg base 9 "outline_with" [J_,S!] (Eb t):=
 bV (hx:=[]) (k:=8) T.N5 lN (λhr=>(aF (aX (i:=2) lN.nd rfl b! nS!) (aF (bY (kP (eZ (bU (gF T) a_ I_ ar_))) dg_ bJ) e9_)))
def mO(T:g_):Jv P w K mg base 10 "children" Y! gQ_:=
 bV (hx:=[]) (k:=9) T.O0 a6m (λhr=>(aG (bA (bU (kN T) a_ vt_ ar_))))
def oK(T:g_):Dt P w K mg base 2 t.B4 "signs_of" aW_ (Do t):=
 cJ (hx:=[]) (k:=1) T.V4 T.J5 oH (λhr=>(aG (bA (fQ (NL:=[S!]) (NF:=aW!) (ix:=[0]) rfl b_ k! (bL (sc:=Ad Fi) rfl k!) ju! b_ rfl (eB (a7u (oO T) a_ va!)) vv! W! (λ_ _ _ _ _=>oP (cU fd_ eR l_ (bF T.V4 T.W6 u_) rfl)) gW!))))
def pF(T:g_):Dt P w K mg base 3 t.B4 "text_of" aW_ (Go t):=
 cJ (hx:=[]) (k:=2) T.V4 T.J6 oZ (λhr=>(aG (bA (b4j (fQ (NL:=[S!]) (NF:=aW!) (ix:=[0]) rfl b_ k! (bL (sc:=Ad Fu) rfl k!) ju! b_ rfl (eB (bU (oK T) a_ l_ ar_)) vv! W! b8_ (λ_ _ _ _ _=>(bX M_ bH (bF T.V4 T.W5 u_) l_ r!)))))))
def a3g(T:g_):Jv P w K mg base 10 "text" Y! gR!:=
 bV (hx:=[]) (k:=9) T.O3 c4d (λhr=>(aG (bA (bU (pF T) a_ nS_ ar_))))
def lX(T:g_):Dt P w K mg base 1 t.B4 "numbers_of" aW_ (Fa t):=
 cJ (hx:=[]) (k:=0) T.V4 T.J7 lV (λhr=>(aG (bA (tN a5p c6v rfl T.T0 a5q (aC vb_ aI)))))
def kM(T:g_):Jv P w K mg base 10 "outline_with_number" b1! (Er t):=
 bV (hx:=[]) (k:=9) T.N7 kJ (λhr=>(aF (bY (fA (gK (fJ (aT (uM T) a_ rfl de! az_)))) dg_ bJ) (aG (bA nS_))))
def sW(T:g_):Jv P w K mg base 11 "number" b1! (Gm t):=
 bV (hx:=[]) (k:=10) T.O4 b5z (λhr=>(aG (bA (bX M_ bH (bU (lX T) a_ (aO (kM T) a_ rfl (aC l_ (aC u_ fa_))) ar_) I_ r!))))
def uN(T:g_):Jv P w K mg base 1 "_law_ordered" aI! (Fy):=
 bV (hx:=[]) (k:=0) T.P9 gY (λhr=>(aF (c0v (pP (i:=1) gY.nd rfl b! aJ)) (aF (eS JD rfl (mS jN!) (aZ (i:=2) gY.nd rfl b!) (dH 2) (aF (aX (i:=3) gY.nd rfl b! (aB (b5a nV_))) (aF (jY JD (fA (yS (yR (bM c7m c7n ba! aD p_) (rQ (bM (c9e (Al.units0 hr)) c9m (cO (aE vx_ (aE vx_ aJ))) (cO (aE a9_ (aE a9_ aJ))) p_))))) (aG (aX (i:=3) gY.nd rfl b! (aB vx!)))) (aG (c0v (b7n (i:=1) b_ ba! aq_)))))) (xP d5_))))
def b1h(T:g_):Jv P w K mg base 2 "_law_undone" aI! (Mp):=
 bV (hx:=[]) (k:=1) T.Q0 pA (λhr=>(aF (aX (i:=1) pA.nd rfl b! fP) (aF (eS JD rfl vz! (aZ (i:=2) pA.nd rfl b!) (dH 2) (aG (bY (cU b7! eR jl! d9! rfl) (aG (dN x_ u_ jl! (aB (fX aA! cB jk_ aS p_)))) bJ))) d5_)))
def a7k(T:g_):Jv P w K mg base 1 "_law_hang" c2_ (Gq):=
 bV (hx:=[]) (k:=0) T.Q3 jW (λhr=>(aF (jG (i:=4) (NL:=cB_) (NF:=[ay!]) (ix:=[1]) jW.nd rfl b! rfl b_ k! (bL (sc:=Ad Qx) rfl k!) jA_ b_ rfl (eB bm_) jB_ W! (λ_ _ _ _ _=>oP (fA (bM aY_ tH a8! Z! p_))) gW!) (aF (aX (i:=5) jW.nd rfl b! an!) (aF (jY JD (fA (yS (yR (bM b4b b4c aQ! vA_ p_) (rQ (bM aY_ tH (aN aH aM (aN aH aM bC_ aQ! r!) aD r!) aq_ p_))))) (aG (aX (i:=5) jW.nd rfl b! (aB (aY aQ bO aQ! aD))))) (aF (eS JD rfl (mS (fM rfl T.T3 vA_)) (aZ (i:=6) jW.nd rfl b!) (dH 6) (aG (bY (fA (yS (yR (bM nT nX ba! dJ p_) (rQ (bM aA! cB (aN aH aM bC_ bD_ r!) (cO (aE ba! de!)) p_))))) (aG (aX (i:=5) jW.nd rfl b! (aB (aY aQ bO bD_ aD)))) bJ))) (aG (dN x_ l_ a9! (aB (aY aQ bO (aY aQ bO (cX bC_ dQ (dP aQ!)) (lI (aE (cO (aE Z! de!)) aJ))) (cX bC_ (dP aQ!) dQ))))))))))
def c0l(T:g_):Jv P w K mg base 1 "_law_lies" mi_ (Ms):=
 bV (hx:=[]) (k:=0) T.Q4 wX (λhr=>(aF (jY JD (fA uX_) (aF (jG (i:=3) (NL:=cB_) (NF:=[ay!]) (ix:=[1]) wX.nd rfl b! rfl b_ k! (bL (sc:=Ad Qw) rfl k!) jA_ b_ rfl (eB bm_) jB_ W! n2! n2_) (aF (bY (fA (gK (a8y ba!))) bF! bJ) (aG (aX (i:=1) wX.nd rfl aH! gU_))))) bF!))
def a7j(T:g_):Jv P w K mg base 2 "_law_move" c2_ (Jm):=
 bV (hx:=[]) (k:=1) T.Q5 b8m (λhr=>(aG (bY (vN (pH (cU b7! eR u_ bm_ rfl) (kO (vN (a7q (cU b7! eR I_ bm_ rfl) (xO (cU b7! eR I_ d9! rfl))))))) (aG (bY (kP (eZ (aO (c0l T) a_ rfl (aC l_ (aC I_ ar_))))) (aG (cF (aO (a7k T) a_ rfl (aC l_ (aC u_ n3_))))) bJ)) bJ)))
def c9i(T:g_):Jv P w K mg base 3 "_law_do" mj_ (Wc):=
 bV (hx:=[]) (k:=2) T.Q6 iR (λhr=>(aF (aX (i:=2) iR.nd rfl aH! g0!) (aF (aX (i:=3) iR.nd rfl aH! (aB (cO (aE fi! (aE fi! aJ))))) (aG (bY b8! (aF (aX (i:=4) iR.nd rfl b! (c7s (jQ b7! eR bm! bm_ rfl) (tM (aB (fX aA! cB a9_ aS p_))))) (aF (dN x_ bm_ aP_ nv_) (aF (dN x_ bm_ aP_ (a3u (aC an! (aC an! (aC an! nJ_))))) (aG (cF (aO (a7k T) a_ rfl (aC l_ (aC aP_ (aC (aB (c7z (fJ bC_) a9_ aS)) js_))))))))) (aG (bY b8! (aG (cF (aO (a7j T) a_ rfl (aC l_ gT!)))) (aG (bY b8! (aG (cF (aO (a7j T) a_ rfl (aC l_ (aC bm! nP_))))) (aG (bY n6! (aG (dN x_ vL_ bm! bm!)) (aG (bY n6! (aF vM_ (aF (aX (i:=6) iR.nd rfl b! an!) (aF (eS JD rfl (mS (fM rfl T.T3 (cH cR eJ rfl T.S9 eG (aE aQ! aJ)))) (aZ (i:=7) iR.nd rfl b!) (dH 7) (aG (bY (fA (bM aA! cB (aN aH aM (aN aH aM aQ! dg! r!) aD r!) a9_ p_)) (aG (aX (i:=6) iR.nd rfl b! (aB (aY aQ bO dg! aD)))) bJ))) (aF (jG (i:=8) (NL:=[aF!]) (NF:=[eP!,mj!]) (ix:=[2,3]) iR.nd rfl b! rfl b_ k! n7_ (Cm.cons (j:=2) jG!) b_ rfl (mS (fM rfl T.T3 (cH cR eJ rfl T.S9 eG (aE a9_ aJ)))) (λ_ _ _ _ _=>aZ (i:=0) (show([aF!,eP!,mj!]:List Str).Nodup by decide+kernel) rfl b!) W! b8_ (λ_ _ _ _ _=>(aB (cO (aE (aY aQ bO aq_ (cO bN_)) (aE (aN aH aM fi! F! r!) (aE eE aJ))))))) (aG (dN x_ bm_ bm! (aB (aY aQ bO (aY aQ bO (cX aQ! dQ (dP bD_)) bE!) (cX aQ! (dP bD_) dQ))))))))) (aG (bY n6! (aF (aX (i:=9) iR.nd rfl aH! (fQ (NL:=[aF!]) (NF:=[eP!]) (ix:=[2]) rfl b_ k! n7_ vR_ b_ rfl (mS (fM rfl T.T3 a9_)) (λ_ _ _ _ _=>aZ (i:=0) (show([aF!,eP!]:List Str).Nodup by decide+kernel) rfl b!) W! b8_ (λ_ _ _ _ _=>(aB (aY aQ bO (cX fi! dQ dc_) (cO (aE (aY aQ bO (aN aH aM fi! aD r!) F!) aJ))))))) (aF vM_ (aG (dN x_ bm_ bm! (fQ (NL:=[jJ_]) (NF:=[eP_]) (ix:=[9]) rfl b_ k! n7_ (Cm.cons (j:=9) Cm.nil) b_ rfl (mS (fR aQ!)) (λ_ _ _ _ _=>aZ (i:=0) (show([jJ_,eP_]:List Str).Nodup by decide+kernel) rfl b!) W! b8_ (λ_ _ _ _ _=>(a3t (aC gZ! (aC gZ! (aC (xV gZ! (tM (jQ fd_ eR gZ! u_ rfl))) aI)))))))))) bJ)))))))))))))))
def a7i(T:g_):Jv P w K mg base 4 "_law_play" aI! (Mr):=
 bV (hx:=[]) (k:=3) T.Q7 pZ (λhr=>(aF (aX (i:=1) pZ.nd rfl b! (qP x_ (iK a9! nv_ (iK a9! fP (iK a9! fP xQ))))) (aF (aX (i:=2) pZ.nd rfl b! (aO (b1h T) a_ rfl bO_)) (aF (eS JD rfl vz! (aZ (i:=3) pZ.nd rfl b!) df! (aG (bY (vN (pH (cU fd_ eR (aB (aN aH aM jt_ aD r!)) d9! rfl) (kO (kP (eZ (qQ x_ I_ (aB (cO (aE jt_ (aE jt_ aJ)))) d6! dd!)))))) (aG (cF (aO (c9i T) a_ rfl nJ!))) bJ))) d5_))))
def a0s(T:g_):Jv P w K mg base 12 "_law_alike" ml! (Je t):=
 bV (hx:=[]) (k:=11) T.R4 nQ (λhr=>(aF (aX (i:=3) nQ.nd rfl b! (aO (a7i T) a_ rfl fa_)) (aF (eS JD rfl (eB (uP aQ jF d9! (tN (oV rfl) a9i rfl T.T0 a5q (aC vV_ aI)))) vW_ (dH 4) (aG (bY (cU aY_ jO (aO (mO T) a_ rfl oc_) (aO (mO T) a_ rfl od!) p_) bF! bJ))) (aF (eS JD rfl (a3s vV_) vW_ (dH 4) (aF (bY (vN (a7q (cU aY_ jO (aO (a3g T) a_ rfl oc_) (aO (a3g T) a_ rfl od!) p_) (xO (cU aY_ jO (aO (sV T) a_ rfl oc_) (aO (sV T) a_ rfl od!) p_)))) bF! bJ) (aG (bY (cU aY_ jO (fQ (NL:=[aF!]) (NF:=[c3!,ay!]) (ix:=[0,4]) rfl b_ k! vX_ (Cm.cons (j:=0) vY_) b_ rfl od_ vZ! W! b8_ oe!) (fQ (NL:=[aF!]) (NF:=[c2!,ay!]) (ix:=[1,4]) rfl b_ k! vX_ (Cm.cons (j:=1) vY_) b_ rfl od_ (λ_ _ _ _ _=>aZ (i:=0) (show([aF!,c2!,ay!]:List Str).Nodup by decide+kernel) rfl b!) W! b8_ oe!) p_) bF! bJ)))) bF!))))
def c0n(T:g_):Ok P w K mg base 1 "_law_cell" c1_ (On):=
 eL (hx:=[]) (k:=0) T.P0 b8n (λhr=>(bC (hX (a8y F!) v0_ eC) (bE (bW aD))))
def a3k(T:g_):Jv P w K mg base 1 "_law_children" b3! (Jn):=
 bV (hx:=[]) (k:=0) T.Q8 a2x (λhr=>(aG (bA (fQ (NL:=cB_) (NF:=[ay!]) (ix:=[1]) rfl b_ k! (bL (sc:=Ad Km) rfl k!) jA_ b_ rfl (eB bm_) jB_ W! n2! n2_))))
def fG(T:g_):Ok P w K mg base 2 "_law_mix" c1_ (Bv):=
 eL (hx:=[]) (k:=1) T.P1 a2w (λhr=>(bC (fW (i:=2) a2w.nd rfl b! (aY eP eQ (aY aQ bO (aT (c0n T) a_ rfl (aE F! gV_) aG!) (aY sR sT aD v2_)) aD)) (bC (fW (i:=2) a2w.nd rfl b! (aY eP eQ (aY sR sT aq_ aD) aD)) (bE (bW (aY eP eQ (aY aQ bO (aY sR sT (aY nU nV aq_ aD) aD) aq_) aD))))))
def b6v(T:g_):Ok P w K mg base 1 "_law_items" aI! (Mf):=
 eL (hx:=[]) (k:=0) T.P3 b6c (λhr=>(bE (bW (aY aQ bO (aY aQ bO (fE (n:=8) rfl) (oE (NL:=cB_) (NF:=[]) (ix:=[]) rfl b_ k! (bL (sc:=Ad Pa) rfl k!) Cm.nil b_ rfl jN! og_ W! (λ_ _ _ _ _=>d2l (bM aA! cB jj_ aS p_)) v4_)) (fE (n:=12) rfl)))))
def b6t(T:g_):Ok P w K mg base 1 "_law_signs" aI! (Me):=
 eL (hx:=[]) (k:=0) T.P4 nN (λhr=>(bC (pP (i:=1) nN.nd rfl b! (aE dJ (aE v6! aJ))) (bC (b2a JD rfl jN! nN.nd rfl b! (bE (hX (bM aA! cB jk_ aS p_) (bE (b2a JD rfl (fM rfl T.T3 (cH cR eJ rfl T.S9 eG (aE jk_ aJ))) nN.nd rfl b! (bE (uC (i:=1) b_ (cO (aE a9_ (aE a9_ jm!))))))) eC))) (a8z (bE (bW Z!))))))
def c0k(T:g_):Ok P w K mg base 1 "_law_text" oh! (Ol):=
 eL (hx:=[]) (k:=0) T.P5 a6n (λhr=>(bC (fW (i:=2) a6n.nd rfl aH! aS) (bE (bW (c6n aS (oE (NL:=[aF!]) (NF:=[c1!,mf!]) (ix:=[0,2]) rfl b_ k! (bL (sc:=Ad Qv) rfl k!) (Cm.cons (j:=0) vR_) b_ rfl (fM rfl T.T3 (aY aQ bO aD (aY eP eQ F! Z!))) (λ_ _ _ _ _=>aZ (i:=0) (show([aF!,c1!,mf!]:List Str).Nodup by decide+kernel) rfl b!) W! gM_ (λ_ _ _ _ _=>(aN aH aM aq_ (aY eP eQ (aY nU nV Z! (aY aQ bO aD (aY sR sT aD F!))) aD) r!))))))))
def jX(T:g_):Ok P w K mg base 1 "_law_pick" gg_ (Du):=
 eL (hx:=[]) (k:=0) T.P6 b8l (λhr=>v0_)
def c0m(T:g_):Ok P w K mg base 3 "_law_deed" mg_ (Ks):=
 eL (hx:=[]) (k:=2) T.P7 fK (λhr=>(bC (fW (i:=4) fK.nd rfl b! (aT (fG T) a_ rfl (aE F! gV_) aG!)) (bC (fW (i:=5) fK.nd rfl b! (aT (b6v T) a_ rfl de! az_)) (bC (fW (i:=6) fK.nd rfl b! (aT g6_ a_ rfl (aE (aY aQ bO (cX aQ! dc_ dQ) (cX aQ! dQ dc_)) g7!) aG!)) (bC (fW (i:=7) fK.nd rfl b! (aT g6_ a_ rfl (aE (aY aQ bO aQ! n0!) g7!) aG!)) (bC (hX (fJ (lJ a4x rfl T.S8 rfl T.T5 dC b2k dg!)) (bE (fW (i:=7) fK.nd rfl b! dJ)) eC) (bC (fW (i:=8) fK.nd rfl b! (fE (n:=19) rfl)) (bC (fW (i:=9) fK.nd rfl b! (aN aH aM bE! we! r!)) (bC (hX g8_ (bE (bW (cO (aE cc_ we_)))) eC) (bC (hX g8_ (bE (bW (cO (aE cc_ (aE bD_ we_))))) eC) (bC (hX g8_ (bE (bW (cO (aE cc_ (aE bD_ aJ))))) eC) (bC (fW (i:=10) fK.nd rfl b! (aT g6_ a_ rfl (aE (aT (b6t T) a_ rfl de! az_) g7!) aG!)) (bC (hX g8_ (bE (bW (cO (aE cc_ (aE bD_ (aE ha! (aE (aT (c0k T) a_ rfl (aE wa_ jm!) aG!) aJ))))))) eC) (bC (hX (yS (yR g8_ (rQ (bM nT nX ha! dJ p_)))) (bE (bW (cO (aE cc_ (aE bD_ (aE ha! (aE (aY aQ bO aD (aY eP eQ wj! (aY sQ tG aD (aN aH aM ha! aD r!)))) aJ))))))) eC) (bC (hX (bM b6q d2v cc_ n0! rfl) (bE (bW (cO (aE aS (aE bD_ (aE wk! (aE (aY sQ tG wk! aD) aJ))))))) eC) (bC (fW (i:=11) fK.nd rfl b! (aY aQ bO (oE (NL:=cB_) (NF:=[]) (ix:=[]) rfl b_ k! (bL (sc:=Ad Qz) rfl k!) Cm.nil b_ rfl (fR aq_) og_ W! gM_ v4_) (lI (aE (cO (aE aD (aE (aY aQ bO aD we!) aJ))) aJ)))) (bE (bW (cO (aE cc_ (aE (aT g6_ a_ rfl (aE (aA 11) g7!) aG!) aJ)))))))))))))))))))))
def xL(T:g_):Jv P w K mg base 1 "_law_shown_text" b3! (Hl):=
 bV (hx:=[]) (k:=0) T.Q9 wW (λhr=>(aG (bA (b4j (fQ (NL:=[jJ_]) (NF:=[]) (ix:=[]) rfl b_ k! (bL (sc:=Ad Iy) rfl k!) Cm.nil b_ rfl (eB (bX M_ bH bm_ u_ r!)) (λ_ _ _ _ _=>aZ (i:=0) (show([jJ_]:List Str).Nodup by decide+kernel) rfl b!) W! (λ_ _ _ _ _=>oP (fA (fJ a8!))) n2_)))))
def xH(T:g_):Jv P w K mg base 9 "there" Y! fb_:=
 bV (hx:=[]) (k:=8) T.N8 b8k (λhr=>(aG (bA (bU (gF T) a_ nS! ar_))))
def b6u(T:g_):Jv P w K mg base 12 "_law_shows" os! (Om t):=
 bV (hx:=[]) (k:=11) T.R0 nO (λhr=>(aF (aX (i:=2) nO.nd rfl b! (aO (a7i T) a_ rfl ar_)) (aF (eS JD rfl (eB (uP aQ jF d9! (tN (oV rfl) a9i rfl T.T0 a5q (aC jS_ aI)))) wo! df! (aG (bY (vN (a7q (cU b6p oo_ (aO (xH T) a_ rfl fn_) d6! p_) (xO (cU aY_ jO (aO (mO T) a_ rfl fn_) (aO (a3k T) a_ rfl n3_) p_)))) bF! bJ))) (aF (eS JD rfl (a3s jS_) wo! df! (aF (bY (cU aY_ jO (aO (a3g T) a_ rfl fn_) (aO (xL T) a_ rfl n3_) p_) bF! bJ) (aF (bY (cU aY_ jO (c9q (aC (a3t (aC aP_ (aC (aO (sV T) a_ rfl fn_) aI))) aI)) (fQ (NL:=cB_) (NF:=[ay!]) (ix:=[3]) rfl b_ k! wp_ jG! b_ rfl (eB jS_) jB_ W! n2! gW!) p_) bF! bJ) (aG (bY (cU aY_ jO (fQ (NL:=[aF!]) (NF:=[c3!,ay!]) (ix:=[0,3]) rfl b_ k! wp_ (Cm.cons (j:=0) jG!) b_ rfl od_ vZ! W! b8_ oe!) (bX M_ bH jS_ aP_ r!) p_) bF! bJ))))) (aG (bA (jQ c0i oo_ (aO (xH T) a_ rfl (aC l_ (aC d9! aI))) d6! p_)))))))
def b6s(T:g_):Ok P w K mg base 4 "_law_world" mh_ (Md):=
 eL (hx:=[]) (k:=3) T.P8 fY (λhr=>(bC (pP (i:=3) fY.nd rfl b! aJ) (bC (pP (i:=4) fY.nd rfl b! wq_) (bC (pP (i:=5) fY.nd rfl b! wq_) (bC (b2a JD rfl (fM rfl T.T3 aq_) fY.nd rfl b! (bC (fW (i:=7) fY.nd rfl b! (aT (fG T) a_ rfl (aE F! (aE wr_ aJ)) aG!)) (bC (fW (i:=8) fY.nd rfl b! (aY eP eQ dg! aD)) (bC (c2o (i:=4) b_ bE! (aY aQ bO ws_ aD)) (bC (c2o (i:=5) b_ bE! (aY aQ bO (aY aQ bO wt_ aD) (aY eP eQ (aY nU nV dg! aD) aD))) (bC (fW (i:=9) fY.nd rfl b! (b5a (aT (c0m T) a_ rfl (aE F! (aE (aY aQ bO wr_ aD) (aE ba! or!))) (aK (aK aG!))))) (bE (uC (i:=3) b_ (cO (aE (aN aH aM v6! bE! r!) (aE ws_ (aE wt_ (aE cc_ aJ))))))))))))) (a8z (bE (bW ba!))))))))
def sZ(T:g_):Jv P w K mg base 1 "accept" ax_ (Ki t):=
 bV (hx:=[]) (k:=0) T.M9 b6a (λhr=>(aF (cF (b4k (a0x x_ d5! g0! (a3u aI) dd!) u_)) ut_))
def pE(T:g_):Jv P w K mg base 2 "is_next" ax_ (Hg t):=
 bV (hx:=[]) (k:=1) T.L6 b0i (λhr=>(aG (bA (jQ aA! jm_ g0! (uP aQ jF wu_ an!) p_))))
def qK(T:g_):Jv P w K mg base 3 "accept_waiting" af_ (Fe t):=
 bV (hx:=[]) (k:=2) T.N0 dY (λhr=>(aF (aX (i:=1) dY.nd rfl b! an!) (aF wv_ (aF (jY JD (fA (bM c7m c7n ww! aD p_)) (aF gG (aF (cF (aO (sZ T) a_ rfl (aC l_ js_))) (aF (c0w (i:=1) dY.nd rfl b! an!) (aG wv_))))) d5_))))
def a3j(T:g_):Ok P w K mg base 6 "are_parts" gc! (Hu t):=
 eL (hx:=[]) (k:=5) T.E1 a2u (λhr=>(bC (hX (bM a0o a0q gL! nV_ p_) e8! eC) (bE (bW (cH (yZ rfl) b2h rfl T.R8 b2l (aE (oE (NL:=ts_) (NF:=[]) (ix:=[]) rfl b_ k! (bL (sc:=Ad Kl) rfl k!) Cm.nil b_ rfl (d0n rfl T.T7 d1a Z! F!) (λ_ _ _ _ _=>b9q rfl (qE (aZ (i:=0) wy_ rfl b!) (qE (aZ (i:=1) wy_ rfl b!) b3v))) (c6c 0 1) gM_ (λ_ _ _ _ _=>(c2w (j:=0) (n:=1) (c6e T) a_ gV_ az_))) aJ))))))
def b1g(T:g_):Ok P w K mg base 7 "is_deed" p! (Iv t):=
 eL (hx:=[]) (k:=6) T.E2 b0l (λhr=>(bC (hX (yS (a1q t9! (uB (bM aA! cB gL! aD p_)))) e8! eC) (bC (hX (yS (a1q (gK (fJ (lJ a4x rfl T.S8 rfl T.T5 dC b2k a8!))) (uB (b7m wB! rfl a8!)))) e8! eC) (bC (hX (gK (fJ (aT (a3j T) a_ rfl (aE (cX F! dc_ dQ) (aE (c6p wB! rfl a8! r!) aJ)) aG!))) e8! eC) (bE (bW (a1r (fX a0o a0q a8! aS p_) (iG (fX mJ mK (aY aQ bO jj_ a8!) np! p_)))))))))
def vL(T:g_):Ok P w K mg base 8 "is_operation" p! (Cc t):=
 eL (hx:=[]) (k:=7) T.E3 vJ (λhr=>(bC nn_ (bE (bW (lK ue! (lK uc_ (iG (aT (b1g T) a_ rfl no_ az_))))))))
def qG(T:g_):Jv P w K mg base 2 "was_taken" ax_ (Gb t):=
 bV (hx:=[]) (k:=1) T.L5 a2p (λhr=>(aG (bA (jQ mJ (Im.m mK) g0! wu_ p_))))
def sX(T:g_):Jv P w K mg base 3 "not_yet_taken" bJ! (Eo t):=
 bV (hx:=[]) (k:=2) T.L8 dS (λhr=>(aF (aX (i:=2) dS.nd rfl b! fP) (aF (eS JD rfl (eB (uP aQ jF hd_ u_)) (aZ (i:=3) dS.nd rfl b!) df! (aF (aX (i:=4) dS.nd rfl b! nG!) (aF (bY (eZ (aO (qG T) a_ rfl fn_)) (aG (aX (i:=5) dS.nd rfl b! (bX M_ bH (bX M_ bH d5! (aB oA!) r!) (aB (aY sQ tG oA! aD)) r!))) (aG (bY (cU aA! jm_ (aB oA!) j1! p_) dg_ (aG (aX (i:=5) dS.nd rfl b! (a0x x_ I_ bD! aP_ dd!)))))) (aG (bY (fA (bM aY_ tH aQ! ba! p_)) dg_ bJ))))) e9_)))
def qI(T:g_):Jv P w K mg base 2 "last_time" b0_ (Ex t):=
 bV (hx:=[]) (k:=1) T.L7 a2s (λhr=>(aF (bY (cU aA! jm_ (bU (iI T) a_ l_ ar_) an! p_) (aG (bA an!)) bJ) (aG (bA (bX M_ bH (bX M_ bH (bX M_ bH d5! u_ r!) (aB (c2v aD)) r!) an! r!)))))
def xI(T:g_):Jv P w K mg base 3 "check_times" mc_ (Jq t):=
 bV (hx:=[]) (k:=2) T.L9 gB (λhr=>(aF (aX (i:=2) gB.nd rfl b! fP) (aG (eS JD rfl (eB (xU (zX rfl) c3c rfl T.T4 a1x ar_)) (aZ (i:=3) gB.nd rfl b!) df! (aF (aX (i:=4) gB.nd rfl b! (bX M_ bH (bX M_ bH u_ aP_ r!) an! r!)) (aF (bY (cU mJ (Im.m mK) bD! (qQ x_ I_ gU_ (aO (qI T) a_ rfl (aC l_ (aC gU_ aI))) dd!) p_) dg_ bJ) (aG (dN x_ I_ gU_ bD!))))))))
def sY(T:g_):Jv P w K mg base 9 "check_message" bJ! (Fs t):=
 bV (hx:=[]) (k:=8) T.M7 sK (λhr=>(aF (bY (fA (gK (fJ (cH (yZ rfl) b2h rfl T.R8 b2l (aE (oE (NL:=p!) (NF:=[]) (ix:=[]) rfl b_ k! (bL (sc:=Ad Hd) rfl k!) Cm.nil b_ rfl (fR Z!) (λ_ _ _ _ _=>aZ (i:=0) (show(p!:List Str).Nodup by decide+kernel) rfl b!) W! gM_ (λ_ _ _ _ _=>(aT (vL T) a_ rfl bN_ az_))) aJ))))) dg_ bJ) (aG (cF (aO (xI T) a_ rfl (aC l_ (aC (aO (sX T) a_ rfl d8_) aI)))))))
def a3h(T:g_):Jv P w K mg base 3 "next_time" af_ (Jl t):=
 bV (hx:=[]) (k:=2) T.O6 a2r (λhr=>(aG (bA (uP aQ jF an! (c5k rfl T.T1 rfl (fQ (NL:=[cY_]) (NF:=af_) (ix:=[0]) rfl b_ k! (bL (sc:=Ad Kk) rfl k!) ju! b_ rfl (a3s d5!) (λ_ _ _ _ _=>aZ (i:=0) (show([cY_,J_]:List Str).Nodup by decide+kernel) rfl b!) W! b8_ (λ_ _ _ _ _=>(aO (qI T) a_ rfl (aC u_ bO_)))))))))
def b4d(T:g_):Jv P w K mg base 4 "make" me! (Tg t):=
 bV (hx:=[]) (k:=3) T.O7 b3d (λhr=>(aF (aX (i:=2) b3d.nd rfl b! (a3t (aC j1! (aC (uP aQ jF (bU (iI T) a_ l_ (aC j1! aI)) an!) aI)))) (aF (cF (aO (sZ T) a_ rfl (aC l_ (aC (uP aQ jF I_ (a3t (aC (aO (a3h T) a_ rfl bO_) ar_))) aI)))) e9_)))
def c9h(T:g_):Jv P w K mg base 10 "put" gg! (Wb t):=
 bV (hx:=[]) (k:=9) T.O8 c8k (λhr=>(aF (cF vt_) (aG (bA (aO (b4d T) a_ rfl (aC l_ (aC (aB (cO (aE aS (aE Z! de!)))) aI)))))))
def b1c(T:g_):Jv P w K mg base 4 "receive" ax_ (Kf t):=
 bV (hx:=[]) (k:=3) T.N3 wS (λhr=>(aF (bY (eZ (aO (pE T) a_ rfl d8_)) (aF (cF (aO (sZ T) a_ rfl d8_)) (aG (bA (uP aQ jF an! (aO (qK T) a_ rfl bO_))))) bJ) (aF (aX (i:=2) wS.nd rfl b! (c7s (aO (qG T) a_ rfl d8_) (tM (jQ b7! eR u_ hd_ rfl)))) (aF (bY (vN (pH (fA (gK (fJ aq_))) (kO (cU b4b (Im.m b4c) (xU cR c3d rfl T.S9 eG (aC hd_ aI)) (aB (iA T.U2 rfl)) p_)))) (aG (cF (b4k hd_ u_))) bJ) (aG (bA an!))))))
def qH(T:g_):Jv P w K mg base 10 "take" bJ! fe!:=
 bV (hx:=[]) (k:=9) T.N4 vT (λhr=>(aF (cF (aO (sY T) a_ rfl d8_)) (aF (aX (i:=2) vT.nd rfl b! an!) (aF (eS JD rfl oF_ (aZ (i:=3) vT.nd rfl b!) df! (aG (c0w (i:=2) vT.nd rfl b! (aO (b1c T) a_ rfl fn_)))) e9_))))
def a7h(T:g_):Jv P w K mg base 2 "undoable" b0_ (Kr t):=
 bV (hx:=[]) (k:=1) T.O5 a6h (λhr=>(aG (bA (fQ (NL:=bh!) (NF:=[]) (ix:=[]) rfl b_ k! (bL (sc:=Ad Lm) rfl k!) Cm.nil b_ rfl (eB uq!) (λ_ _ _ _ _=>aZ (i:=0) (show(bh!:List Str).Nodup by decide+kernel) rfl b!) W! (λ_ _ _ _ _=>oP (fA (gK (fJ (aT (fU T) a_ rfl bN_ az_))))) (λ_ _ _ _ _=>(aB jb_))))))
def c5f(T:g_):Jv P w K mg base 7 "undo" af_ (Tf t):=
 bV (hx:=[]) (k:=6) T.O9 a2q (λhr=>(aF (aX (i:=1) a2q.nd rfl aH! (aO (a0r T) a_ rfl vo_)) (aF (jG (i:=2) (NL:=[S!]) (NF:=[ge_]) (ix:=[1]) a2q.nd rfl b! rfl b_ k! (bL (sc:=Ad Sq) rfl k!) jA_ b_ rfl (eB (aO (a7h T) a_ rfl (aC l_ (aC j1! aI)))) (λ_ _ _ _ _=>aZ (i:=0) (show([S!,ge_]:List Str).Nodup by decide+kernel) rfl b!) W! (λ_ _ _ _ _=>oP (cU fd_ eR l_ u_ rfl)) gW!) (aF (bY (fA (bM aA! cB ww! aD p_)) dg_ bJ) (aG (bA (aO (b4d T) a_ rfl (aC l_ (aC (aB (cO (aE aS (aE (aN aH aM aq_ (c2v aD) r!) aJ)))) aI)))))))))
end
def Zo(K:yS!):Sp:=λvs H Q E=>∀(P:yp!) (w:xV!) (t:Au),t.nd->Yc P w K 1 (Zt t) vs H Q E
section
variable{P:yp!}{w:xV!}{K:yS!}{mg:Str->Option Value}{h:Heap}
def d1j(gh:mg "law"=some ff!)(dl:AY K mg "law" Qo [bJ_])(T:Txt P w K mg j8!)(nd:Au.nd j8!):
  ∃fd:FuncData,(∀(s:yR!) (u:x5!),BindsTo s fd jy! [("_law_script",u)])/\∀base:Heap,K.In base->base.Ns mainGlobals mg->Fq P w K mg base Qf 13 fa fd [bJ_] (Zo K):=by
 obtain⟨fd,Y,L⟩:=c5o (hx:=[]) (k:=12) (P:=P) (w:=w) (q:=Xn j8!) dl gM gh (λbase ae ag A outer s H E hr=>(aF (aX (i:=1) gM.nd rfl b! (aB (aT (b6s T) a_ rfl (aE F! (aE aD (aE oO! aJ))) (aK aG!))))
   (aF (jG (i:=1) (NL:=cB_) (NF:=[]) (ix:=[]) gM.nd rfl b! rfl b_ k! w3_ Cm.nil b_ rfl oF_ og_ W! b8_ (λ_ _ _ _ _=>(c1a (cU fd_ eR (aB jj_) d9! rfl) l_ (aB w4!))))
   (aF (aX (i:=2) gM.nd rfl b! (aB (aY eP eQ w2! nV_)))
   (aF (aX (i:=3) gM.nd rfl aH! (aB (cX (aN aH aM Z! aq_ r!) dQ dc_)))
   (aF (jG (i:=4) (NL:=cB_) (NF:=[eP_]) (ix:=[3]) gM.nd rfl b! rfl b_ k! w3_ jG! b_ rfl oF_ (λ_ _ _ _ _=>aZ (i:=0) (show([cr!,eP_]:List Str).Nodup by decide+kernel) rfl b!) W! b8_ (λ_ _ _ _ _=>(aB (c7z (bM aY_ tH jb_ Z! p_) F! w4!))))
   (aF (aX (i:=5) gM.nd rfl b! oQ!)
   (aF (cF (aO hn! a_ rfl (aC cz_ ar_)))
   (aF (aX (i:=6) gM.nd rfl b! oQ!)
   (aF (cF (aO hn! a_ rfl w4_))
   (aF (aX (i:=7) gM.nd rfl b! (aB (cO (aE aD (aE aD (aE oO! w5!))))))
   (aF (aX (i:=8) gM.nd rfl b! (aB (cO (aE oO! w6!))))
   (aF (bY (fA (bM aA! cB (aN aH aM bE! aD r!) aD p_)) (aG (aX (i:=8) gM.nd rfl b! (aB (cO (aE aD w6!))))) bJ)
   (aF (bY (vN (a7q (cU aY_ jO (aO hn! a_ rfl (aC cz_ (aC (aB (lI (aE dg! aJ))) aI))) an! p_) (xO (kP (eZ (aO (a0s T) a_ rfl (aC cz_ w4_))))))) bF! bJ)
   (aF (aX (i:=9) gM.nd rfl b! oQ!)
   (aF (cF (aO hn! a_ rfl oS_))
   (aF (bY (vN (a7q (cU aY_ jO (aO hn! a_ rfl (aC cz_ (aC (aB (lI (aE bE! aJ))) aI))) an! p_) (xO (kP (eZ (aO (a0s T) a_ rfl (aC cz_ oS_))))))) bF! bJ)
   (aF (aX (i:=10) gM.nd rfl b! (aO (c9h T) a_ rfl (aC cz_ nP_)))
   (aF (cF (aO (c5f T) a_ rfl nL_))
   (aG (bA (xV (jQ c0i oo_ (aO (xH T) a_ rfl (aC cz_ (aC (aB ha!) aI))) d6! p_) (tM (aO (b6u T) a_ rfl oS_))))))))))))))))))))))))
 exact⟨fd,Y,λbase i g=>(L base i g).imp λvs H Q E z=>z P w _ nd⟩
def b7j{ad:x7!}{k3:Tok}{o0 o1 o2 o3 o4 o5 o6 o7:a7_}{n0 n1 n2 n3 n4 n5 n6 n7 ep:Nat}{s0 s1 s2 s3 s4 s5 s6 s7:b6_}(X:fB_)(G:fC!)
  (ga:W.nsIn K mainGlobals "PARTS"=some (some kp_))(gl:K.lookup ad=some {cls:=.type "dict",data:=.dict #[⟨PyData.keyHash w.params "put",.str "put" k0,.ref r0⟩,⟨PyData.keyHash w.params "move",.str "move" k1,.ref r1⟩,⟨PyData.keyHash w.params "drop",.str "drop" k2,.ref r2⟩,⟨PyData.keyHash w.params "write",.str "write" k3,.ref r3⟩,⟨PyData.keyHash w.params "cut",.str "cut" k4,.ref r4⟩,⟨PyData.keyHash w.params "set",.str "set" k5,.ref r5⟩,⟨PyData.keyHash w.params "undo",.str "undo" k6,.ref r6⟩,⟨PyData.keyHash w.params "redo",.str "redo" k7,.ref r7⟩] ep})(gs:o9!=false)
  (l0:K.lookup r0=some ⟨cM_,o0,.seq #[.ref B6,.ref B7] n0,s0⟩)
  (l1:K.lookup r1=some ⟨cM_,o1,.seq #[.ref B6,.ref B6,.ref B7] n1,s1⟩)
  (l2:K.lookup r2=some ⟨cM_,o2,.seq #[.ref B6] n2,s2⟩)
  (l3:K.lookup r3=some ⟨cM_,o3,.seq #[.ref B6,.ref B8,.ref B9] n3,s3⟩)
  (l4:K.lookup r4=some ⟨cM_,o4,.seq #[.ref B6,.ref C0,.ref C1] n4,s4⟩)
  (l5:K.lookup r5=some ⟨cM_,o5,.seq #[.ref B6,.ref C2,.ref C3] n5,s5⟩)
  (l6:K.lookup r6=some ⟨cM_,o6,.seq #[.ref C4] n6,s6⟩)
  (l7:K.lookup r7=some ⟨cM_,o7,.seq #[.ref C4] n7,s7⟩)
  :∀X:Cx,X.prog=P->X.w=w->X.K=K->X.mg=mg->Us X "PARTS" (Iu j8!):=λwj e1 e2 e3 e4=>
 c2e (rows:=[("put",k0,r0),("move",k1,r1),("drop",k2,r2),("write",k3,r3),("cut",k4,r4),("set",k5,r5),("undo",k6,r6),("redo",k7,r7)]) (w:=w) e2 e3 e4 (fH X G ga) gs gl (show(["put","move","drop","write","cut","set","undo","redo"]:List Str).Nodup by decide+kernel) ⟨rfl,gZ (fs:=[B6,B7]) l0 (by show 2<=1000;decide),rfl,gZ (fs:=[B6,B6,B7]) l1 kd!,rfl,gZ (fs:=[B6]) l2 oU_,rfl,gZ (fs:=[B6,B8,B9]) l3 kd!,rfl,gZ (fs:=[B6,C0,C1]) l4 kd!,rfl,gZ (fs:=[B6,C2,C3]) l5 kd!,rfl,gZ (fs:=[C4]) l6 oU_,rfl,gZ (fs:=[C4]) l7 oU_,trivial⟩
end
end K24
open PySem PySem.W PyProof.Rows
set_option maxRecDepth 100000 in
set_option maxHeartbeats 0 in
theorem PySem.Challenge.cw_manyhands_k24_whole_back_holds : PySem.Challenge.rw_manyhands_k24_whole_back.Holds := by
 w_on;o_law;k_head;(case hw=>w_witness2)
 k_fill
 refine L2.b7z (l:=PySem.Challenge.rw_manyhands_k24_whole_back) (n:=63) (k:=13) (x:="_law_script") (CX:=L2.Qf) (sp:=K24.Zo) rfl (by decide) rfl ⟨rfl,by decide,by decide⟩ (λw h Y=>W.kIn_of Y) ?F (λK H a ns hl _ hS P w t nd=>DL.c5n hS (K24.c1j nd)) (λ_ _ _ _ z=>z)
 case F=>
  intro w mg fa h KX G hmg;refine' K24.d1j hmg ?dl ⟨?C8,?C9,?D1,?D2,?D3,?D4,?D5,?D6,?D7,?D8,?D9,?E1,?E2,?E3,?E4,?E5,?E6,?E7,?E8,?E9,?F7,?F8,?F9,?G6,?G7,?G8,?G9,?H9,?J0,?J1,?J2,?J3,?J4,?J5,?J6,?J7,?J8,?J9,?K0,?K4,?K6,?K7,?K8,?K9,?L0,?L5,?L6,?L7,?L8,?L9,?M7,?M9,?N0,?N3,?N4,?N5,?N6,?N7,?N8,?N9,?O0,?O3,?O4,?O5,?O6,?O7,?O8,?O9,?P0,?P1,?P3,?P4,?P5,?P6,?P7,?P8,?P9,?Q0,?Q3,?Q4,?Q5,?Q6,?Q7,?Q8,?Q9,?R0,?R4,?R6,?R7,?R8,?R9,?S0,?S7,?S8,?S9,?T0,?T1,?T2,?T3,?T4,?T5,?T6,?T7,?T8,?T9,?U0,?U1,?U2,?U3,?U4,?U5,?U6,?U7,?U8,?U9,?V0,?V2,?V3,?V4,?V5,?V6,?V7,?V8,?V9,?W3,?W4,?W5,?W6,?W7,?W8,?W9,?X0,?gp⟩ ?nd
  (case E6=>show"!!")
  (case F8=>show"!!")
  (case K7=>(dsimp only;refine' DL.c0x (DL.fH KX G ?g) ?a ?i ?l ?c ?k ?mm ?kc ?b;(case g=>k_is);(case a=>k_is);(case i=>k_is);(case l=>k_is);(case c=>k_is);(case k=>k_is);(case mm=>k_is);(case kc=>k_is);(case b=>exact λ_ _ _ _ _ _=>DL.lM λ_ _=>rfl)))
  (case C8=>show"!#")
  (case C9=>show"!$")
  (case D1=>show"!#")
  (case D2=>show"!#")
  (case D3=>show"!#")
  (case D4=>show"!#")
  (case D5=>show"!#")
  (case D6=>show"!#")
  (case D7=>show"!#")
  (case D8=>show"!#")
  (case D9=>show"!#")
  (case E1=>show"!$")
  (case E2=>show"!#")
  (case E3=>show"!#")
  (case E4=>show"!#")
  (case E5=>show"!#")
  (case E7=>show"!%")
  (case E8=>show"!&")
  (case E9=>show"!%")
  (case F7=>(dsimp only;refine' DL.dO ?a ?i ?l ?c ?k ?b;(case a=>k_is);(case i=>k_is);(case l=>k_is);(case c=>k_is);(case k=>k_is);(case b=>exact λ_ _ _ _ _ _=>DL.oG λ_=>rfl)))
  (case F9=>show"!%")
  (case G6=>show"!%")
  (case G7=>show"!&")
  (case G8=>show"!'")
  (case G9=>show"!&")
  (case H9=>show"!'")
  (case J0=>(dsimp only;refine' DL.dO ?a ?i ?l ?c ?k ?b;(case a=>k_is);(case i=>k_is);(case l=>k_is);(case c=>k_is);(case k=>k_is);(case b=>exact λ_ _ _ _ _ _=>DL.us5 λ_ _ _ _ _=>rfl)))
  (case J1=>show"!'")
  (case J2=>show"!'")
  (case J3=>show"!%")
  (case J4=>show"!%")
  (case J5=>show"!%")
  (case J6=>show"!%")
  (case J7=>show"!%")
  (case J8=>show"!#")
  (case J9=>show"!#")
  (case K0=>show"!#")
  (case K4=>show"!(")
  (case K6=>show"!#")
  (case K8=>show"!%")
  (case K9=>show"!#")
  (case L0=>show"!#")
  (case L5=>show"!$")
  (case L6=>show"!$")
  (case L7=>show"!$")
  (case L8=>show"!$")
  (case L9=>show"!$")
  (case M7=>show"!$")
  (case M9=>show"!$")
  (case N0=>show"!#")
  (case N3=>show"!$")
  (case N4=>show"!$")
  (case N5=>show"!$")
  (case N6=>show"!$")
  (case N7=>show"!(")
  (case N8=>show"!$")
  (case N9=>show"!$")
  (case O0=>show"!$")
  (case O3=>show"!$")
  (case O4=>show"!(")
  (case O5=>show"!$")
  (case O6=>show"!#")
  (case O7=>show"!$")
  (case O8=>show"!(")
  (case O9=>show"!#")
  (case P0=>show"!$")
  (case P1=>show"!$")
  (case P3=>show"!#")
  (case P4=>show"!#")
  (case P5=>show"!$")
  (case P6=>show"!$")
  (case P7=>show"!)")
  (case P8=>show"!(")
  (case P9=>show"!#")
  (case Q0=>show"!#")
  (case Q3=>show"!)")
  (case Q4=>show"!(")
  (case Q5=>show"!)")
  (case Q6=>show"!$")
  (case Q7=>show"!#")
  (case Q8=>show"!$")
  (case Q9=>show"!$")
  (case R0=>show"!$")
  (case R4=>show"!(")
  (case R6=>show"!#")
  (case dl=>(refine' DL.c6k KX G ?a ?l ?c ?k ?b;(case a=>k_is);(case l=>k_is);(case c=>k_is);(case k=>k_is);(case b=>exact λ_ _ _ _ _ _=>DL.oG λ_=>rfl)))
  (case R7=>show"!*")
  (case R8=>show"!*")
  (case R9=>show"!*")
  (case S0=>show"!*")
  (case S7=>show"!*")
  (case S8=>show"!*")
  (case S9=>show"!*")
  (case T0=>show"!*")
  (case T1=>show"!*")
  (case T2=>show"!*")
  (case T3=>show"!*")
  (case T4=>show"!*")
  (case T5=>show"!*")
  (case T6=>show"!*")
  (case T7=>show"!*")
  (case T8=>show"!+")
  (case T9=>show"!+")
  (case U0=>show"!+")
  (case U1=>show"!+")
  (case U2=>show"!+")
  (case U3=>show"!,")
  (case U4=>show"!,")
  (case U5=>show"!,")
  (case U6=>show"!,")
  (case U7=>show"!,")
  (case U8=>show"!,")
  (case U9=>show"!,")
  (case V0=>show"!,")
  (case V2=>show"!,")
  (case V3=>show"!-")
  (case V4=>show"!-")
  (case V5=>show"!-")
  (case V6=>show"!.")
  (case V7=>show"!.")
  (case V8=>show"!.")
  (case V9=>show"!.")
  (case W3=>show"!.")
  (case W4=>show"!.")
  (case W5=>show"!.")
  (case W6=>show"!.")
  (case W7=>show"!.")
  (case W8=>show"!.")
  (case W9=>show"!.")
  (case X0=>show"!.")
  (case gp=>(refine' K24.b7j KX G ?ga ?gl ?gs ?l0 ?l1 ?l2 ?l3 ?l4 ?l5 ?l6 ?l7;(case ga=>k_is);(case gl=>k_is);(case gs=>decide);(case l0=>k_is);(case l1=>k_is);(case l2=>k_is);(case l3=>k_is);(case l4=>k_is);(case l5=>k_is);(case l6=>k_is);(case l7=>k_is)))
  (case nd=>(unfold K24.Au.nd;decide))
